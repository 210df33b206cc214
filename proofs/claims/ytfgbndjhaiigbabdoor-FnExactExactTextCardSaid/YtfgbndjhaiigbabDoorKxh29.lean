/-
  Contracts of the functions that the laws reach, and the plain facts that they rest on, each under the conditions that its line names; part 29.
-/
import Derived.Test.YtfgbndjhaiigbabDoorKxh1
import Derived.Test.YtfgbndjhaiigbabDoorKxh2
import Derived.Test.YtfgbndjhaiigbabDoorKxh3
import Derived.Test.YtfgbndjhaiigbabDoorKxh4
import Derived.Test.YtfgbndjhaiigbabDoorKxh5
import Derived.Test.YtfgbndjhaiigbabDoorKxh6
import Derived.Test.YtfgbndjhaiigbabDoorKxh7
import Derived.Test.YtfgbndjhaiigbabDoorKxh8
import Derived.Test.YtfgbndjhaiigbabDoorKxh9
import Derived.Test.YtfgbndjhaiigbabDoorKxh10
import Derived.Test.YtfgbndjhaiigbabDoorKxh11
import Derived.Test.YtfgbndjhaiigbabDoorKxh12
import Derived.Test.YtfgbndjhaiigbabDoorKxh13
import Derived.Test.YtfgbndjhaiigbabDoorKxh14
import Derived.Test.YtfgbndjhaiigbabDoorKxh15
import Derived.Test.YtfgbndjhaiigbabDoorKxh16
import Derived.Test.YtfgbndjhaiigbabDoorKxh17
import Derived.Test.YtfgbndjhaiigbabDoorKxh18
import Derived.Test.YtfgbndjhaiigbabDoorKxh19
import Derived.Test.YtfgbndjhaiigbabDoorKxh20
import Derived.Test.YtfgbndjhaiigbabDoorKxh21
import Derived.Test.YtfgbndjhaiigbabDoorKxh22
import Derived.Test.YtfgbndjhaiigbabDoorKxh23
import Derived.Test.YtfgbndjhaiigbabDoorKxh24
import Derived.Test.YtfgbndjhaiigbabDoorKxh25
import Derived.Test.YtfgbndjhaiigbabDoorKxh26
import Derived.Test.YtfgbndjhaiigbabDoorKxh27
import Derived.Test.YtfgbndjhaiigbabDoorKxh28
import Derived.Test.YtfgbndjhaiigbabDoorRows
import Derived.WalkKit
import Derived.Handy
import Derived.LoopTactic
import Derived.LoopN
import Derived.Laws.OwnMore
import Derived.OwnWalk
import Derived.Deep.AppendLies
import Derived.Laws.Bits64b
import Derived.WalkSpells
import Derived.WalkLawsBesides
import Derived.StillTactics
import Derived.Laws.Pointers
import Derived.Deep.RegionHeld3
import Derived.Deep.QuietTactic
import Derived.BigQuiet
import Derived.Outline
import Derived.Lib.Hide
import Derived.RowKit3
import Derived.Carry
import Derived.IntWalk
import Derived.Lib.ItoaNum
import Derived.Laws.BytesString
import Derived.Deep.LoopGhost
import Derived.Laws.BitsAllLaws
import Ieee.Arith
import Derived.Laws.FloatArith
import Derived.ScopeJumps
import Derived.WalkMore
import Derived.Laws.EntriesVeiled
namespace Go.Proofs.YtfgbndjhaiigbabDoor
open Go Go.RowKit
set_option linter.unusedSimpArgs false
set_option linter.unusedVariables false
set_option maxRecDepth 100000

attribute [local go_sem] ta_finite_finite ta_finite_infinite ta_finite_noNumber ta_infinite_finite ta_infinite_infinite ta_infinite_noNumber ta_noNumber_finite ta_noNumber_infinite ta_noNumber_noNumber

/-- The tables of the library that texts and numbers read. -/
def TE2 (w : World) : Prop := TW w ∧ TXW w

theorem TE2.ext {a b : World} (h : TE2 a) (x : Ext a b) : TE2 b := ⟨h.1.ext x, h.2.ext x⟩

/-- The text of a value over a power of two. -/
def xtT (e f a s : Int) : List UInt8 := sgT (a / pw (e + f)) ++ (if unitsV e f a = 0 then [48] else exT ((odV (unitsV e f a)).natAbs * 2 ^ ((shE (unitsV e f a) (unV e f)) - s).toNat * 5 ^ (s - (shE (unitsV e f a) (unV e f))).toNat) (s - (shE (unitsV e f a) (unV e f))).toNat)

theorem xt_form {e f a : Int} (hf : finB e f a = true) (hz : unitsV e f a ≠ 0) (s : Int) (s0 : 0 ≤ s) (s1 : s ≤ 1) : ∃ N K d j : Nat, (odV (unitsV e f a)).natAbs = N ∧ N % 2 = 1 ∧ (shE (unitsV e f a) (unV e f)) - s = (d : Int) - K ∧ (d = 0 ∨ K = 0) ∧ unV e f - s = -((K : Int) + j) ∧ (unitsV e f a).natAbs = N * 2 ^ d * 2 ^ j ∧ K ≤ 25 ∧ d ≤ 45 ∧ j ≤ 60 ∧ (s - (shE (unitsV e f a) (unV e f))).toNat = K ∧ ((shE (unitsV e f a) (unV e f)) - s).toNat = d ∧ N * 2 ^ d < 1125899906842624 ∧ 0 < N := by
  have ub := units_bd e f a (fin_pat hf).1
  have u := un_bd (pat_iff.1 (fin_pat hf).1).1
  obtain ⟨x0, x1⟩ := xa_bd hf
  obtain ⟨t0, t1, t2, t3⟩ := tz_spec (unitsV e f a) hz (by omega) (by omega)
  have hx : (shE (unitsV e f a) (unV e f)) = unV e f + tzV (unitsV e f a) := if_neg hz
  have hn : (unitsV e f a).natAbs = (odV (unitsV e f a)).natAbs * 2 ^ (tzV (unitsV e f a)).toNat := by
    have h1 : (unitsV e f a).natAbs = (odV (unitsV e f a) * pw (tzV (unitsV e f a))).natAbs := by rw [← t2]
    rw [h1, Int.natAbs_mul]
    congr 1
    all_goals (unfold pw; rw [Int.natAbs_pow]; try rfl)
  generalize (shE (unitsV e f a) (unV e f)) = X at *
  generalize tzV (unitsV e f a) = t at *
  have n1 : (odV (unitsV e f a)).natAbs % 2 = 1 := by omega
  have hj : (X - s).toNat + (t - (X - s).toNat).toNat = t.toNat := by omega
  have h2 : (unitsV e f a).natAbs = (odV (unitsV e f a)).natAbs * 2 ^ (X - s).toNat * 2 ^ (t - (X - s).toNat).toNat := by rw [Nat.mul_assoc, ← Nat.pow_add, hj]; exact hn
  refine ⟨_, (s - X).toNat, (X - s).toNat, (t - (X - s).toNat).toNat, rfl, n1, by omega, by omega, by omega, h2, by omega, by omega, by omega, rfl, rfl, ?_, by omega⟩
  have h3 : (odV (unitsV e f a)).natAbs * 2 ^ (X - s).toNat * 1 ≤ (odV (unitsV e f a)).natAbs * 2 ^ (X - s).toNat * 2 ^ (t - (X - s).toNat).toNat := Nat.mul_le_mul_left _ (Nat.pow_pos (by decide))
  omega

theorem kz_iff {e f a : Int} (hf : finB e f a = true) : (kindV e f a = 0 ↔ unitsV e f a = 0) := by
  rcases kind_parts (fin_pat hf).1 with ⟨_, h, _⟩ | ⟨_, h, _⟩ | ⟨h, _, g⟩ | ⟨h, _, g⟩
  · rw [hf] at h; cases h
  · rw [hf] at h; cases h
  · exact ⟨fun _ => g, fun _ => h⟩
  · exact ⟨fun q => by omega, fun q => absurd q g⟩

set_option maxHeartbeats 1600000 in
theorem txValue_any (e f a s : Int) (hf : finB e f a = true) (s0 : 0 ≤ s) (s1 : s ≤ 1) (w : World) : Calls Tryd.prog 88 #[fmt e f, .int .i64 a, .int .i64 s] w fun rv w' => rv = .returned (.string ⟨(xtT e f a s).toArray⟩) ∧ Ext w w' := by
  have hap := (fin_pat hf).1
  have hg := (pat_iff.1 hap).1
  have kz := kz_iff hf
  by_cases hz : unitsV e f a = 0
  · have hk0 : kindV e f a = 0 := kz.2 hz
    have AZ := Lib.hid (fun w => arZeroK e f a true hap (by simpa using hk0) w)
    have SG := Lib.hid (fun w => txSigned_any e f a ⟨#[48]⟩ hap (by decide) w)
    have ex : xtT e f a s = sgT (a / pw (e + f)) ++ [48] := by unfold xtT; rw [if_pos hz]
    have es : ((⟨(sgT (a / pw (e + f))).toArray⟩ : ByteArray) ++ ⟨#[48]⟩) = ⟨(sgT (a / pw (e + f)) ++ [48]).toArray⟩ := str_two _ [48]
    rw [ex, ← es]
    clear ex es hk0 hz kz
    generalize sgT (a / pw (e + f)) = g at *
    go_enter Tryd.func88, Tryd.ntmps88
    go_wp2_with (first | (go_at_call 74; refine (AZ.out _).mono ?_; rintro rv w1 ⟨rfl, hb⟩; have ns : w.heap.size < w1.heap.size := hb.ltK; have n0 : w1.cell? ⟨w.heap.size, 0, none⟩ = some (.int .i64 e) := hb.cellK; have n1 : w1.cell? ⟨w.heap.size, 1, none⟩ = some (.int .i64 f) := hb.cellK; (first | (have nx := hx.trK hb; clear hx) | have nx := hb); clear hb; try clear hs; try clear g0; try clear g1; have hx := nx; clear nx; have hs := ns; clear ns; have g0 := n0; clear n0; have g1 := n1; clear n1) | (go_at_call 131; refine (SG.out _).mono ?_; rintro rv w1 ⟨rfl, hb⟩; have ns : w.heap.size < w1.heap.size := hb.ltK; have n0 : w1.cell? ⟨w.heap.size, 0, none⟩ = some (.int .i64 e) := hb.cellK; have n1 : w1.cell? ⟨w.heap.size, 1, none⟩ = some (.int .i64 f) := hb.cellK; (first | (have nx := hx.trK hb; clear hx) | have nx := hb); clear hb; try clear hs; try clear g0; try clear g1; have hx := nx; clear nx; have hs := ns; clear ns; have g0 := n0; clear n0; have g1 := n1; clear n1))
    go_ret
    exact ⟨rfl, Ext.auK⟩
  · have hk0 : ¬ kindV e f a = 0 := fun h => hz (kz.1 h)
    have AZ := Lib.hid (fun w => arZeroK e f a false hap (by simpa using hk0) w)
    obtain ⟨N, K, d, j, h1, h2, h3, h4, h5, h6, h7, h8, h9, h10, h11, h12, h13⟩ := xt_form hf hz s s0 s1
    have ub := units_bd e f a hap
    have u := un_bd hg
    have ex : xtT e f a s = sgT (a / pw (e + f)) ++ exT (N * 2 ^ d * 5 ^ K) K := by unfold xtT; rw [if_neg hz, h1, h10, h11]
    have TX := fun w => txExact_any (N * 2 ^ d) K j (Nat.mul_pos h13 (Nat.pow_pos (by decide))) (h4.elim (fun g => .inr (by rw [g, Nat.pow_zero, Nat.mul_one]; exact h2)) .inl) (by omega) h9 (by rw [← h6]; omega) w
    rw [← h6, ← h5] at TX
    have TU := Lib.hid (fun w => txUnits_any e f a hf w)
    have RU := Lib.hid (fun w => rdUnit_any e f hg w)
    have k1 : IntKind.i64.wrap (unV e f - s) = unV e f - s := IntWalk.i64_in _ (by omega)
    have xl : (exT (N * 2 ^ d * 5 ^ K) K).length ≤ 1000 := by
      rw [← rsT_all]
      have q1 := rsT_len (N * 2 ^ d * 5 ^ K) K (max (revD (N * 2 ^ d * 5 ^ K)).length (K + 1))
      have q2 : (revD (N * 2 ^ d * 5 ^ K)).length ≤ 58 := by
        apply revD_len
        have c1 : 5 ^ K ≤ 10 ^ 40 := Nat.le_trans (Nat.pow_le_pow_right (by decide) (by omega : K ≤ 40)) (by decide)
        have c2 : N * 2 ^ d * 5 ^ K ≤ N * 2 ^ d * 10 ^ 40 := Nat.mul_le_mul_left _ c1
        have c3 : N * 2 ^ d * 10 ^ 40 < 10 ^ 18 * 10 ^ 40 := Nat.mul_lt_mul_of_pos_right (Nat.lt_trans h12 (by decide)) (by decide)
        have c4 : (10 : Nat) ^ 18 * 10 ^ 40 = 10 ^ 58 := by decide
        omega
      omega
    have SG := fun w => txSigned_any e f a ⟨(exT (N * 2 ^ d * 5 ^ K) K).toArray⟩ hap (by show (_ : Array UInt8).size ≤ 1000; simpa using xl) w
    rw [ex, ← str_two]
    have TXH := Lib.hid TX
    have SGH := Lib.hid SG
    clear TX SG ex xl h1 h2 h3 h4 h5 h6 h7 h8 h9 h10 h11 h12 h13 ub u hz hk0 kz
    generalize exT (N * 2 ^ d * 5 ^ K) K = x at *
    generalize sgT (a / pw (e + f)) = g at *
    generalize ((unitsV e f a).natAbs : Int) = U at *
    generalize unV e f = V at *
    go_enter Tryd.func88, Tryd.ntmps88
    go_wp2_with (first | (go_at_call 74; refine (AZ.out _).mono ?_; rintro rv w1 ⟨rfl, hb⟩; have ns : w.heap.size < w1.heap.size := hb.ltK; have n0 : w1.cell? ⟨w.heap.size, 0, none⟩ = some (.int .i64 e) := hb.cellK; have n1 : w1.cell? ⟨w.heap.size, 1, none⟩ = some (.int .i64 f) := hb.cellK; (first | (have nx := hx.trK hb; clear hx) | have nx := hb); clear hb; try clear hs; try clear g0; try clear g1; have hx := nx; clear nx; have hs := ns; clear ns; have g0 := n0; clear n0; have g1 := n1; clear n1))
    try (go_region_held3 (fun w' => w'.cell? ⟨w.heap.size, 0, none⟩ = some (.int .i64 e) ∧ w'.cell? ⟨w.heap.size, 1, none⟩ = some (.int .i64 f) ∧ w.heap.size < w'.heap.size) ((refine ⟨?_, ?_, ?_⟩ <;> first | with_reducible assumption | ((rw [cell_setRow_far _ _ _ _ _ (by omega)]); with_reducible assumption) | ((rw [setRow_size]); with_reducible assumption) | ((repeat rw [World.cell?_setCell_far _ _ _ _ (by simp)]); with_reducible assumption) | (simp; done) | (simp [World.setCell]; first | done | omega) | (simp [go_sem, World.cell?_alloc_past, World.cell?_setCell_far, *]; done))) ((first | (go_at_call 117; refine (TU.out _).mono ?_; rintro rv w1 ⟨rfl, hb⟩; have ns : w.heap.size < w1.heap.size := hb.ltK; have n0 : w1.cell? ⟨w.heap.size, 0, none⟩ = some (.int .i64 e) := hb.cellK; have n1 : w1.cell? ⟨w.heap.size, 1, none⟩ = some (.int .i64 f) := hb.cellK; (first | (have nx := hx.trK hb; clear hx) | have nx := hb); clear hb; try clear hs; try clear g0; try clear g1; have hx := nx; clear nx; have hs := ns; clear ns; have g0 := n0; clear n0; have g1 := n1; clear n1) | (go_at_call 49; refine (RU.out _).mono ?_; rintro rv w1 ⟨rfl, hb⟩; have ns : w.heap.size < w1.heap.size := hb.ltK; have n0 : w1.cell? ⟨w.heap.size, 0, none⟩ = some (.int .i64 e) := hb.cellK; have n1 : w1.cell? ⟨w.heap.size, 1, none⟩ = some (.int .i64 f) := hb.cellK; (first | (have nx := hx.trK hb; clear hx) | have nx := hb); clear hb; try clear hs; try clear g0; try clear g1; have hx := nx; clear nx; have hs := ns; clear ns; have g0 := n0; clear n0; have g1 := n1; clear n1) | (go_at_call 132; refine (TXH.out _).mono ?_; rintro rv w1 ⟨rfl, hb⟩; have ns : w.heap.size < w1.heap.size := hb.ltK; have n0 : w1.cell? ⟨w.heap.size, 0, none⟩ = some (.int .i64 e) := hb.cellK; have n1 : w1.cell? ⟨w.heap.size, 1, none⟩ = some (.int .i64 f) := hb.cellK; (first | (have nx := hx.trK hb; clear hx) | have nx := hb); clear hb; try clear hs; try clear g0; try clear g1; have hx := nx; clear nx; have hs := ns; clear ns; have g0 := n0; clear n0; have g1 := n1; clear n1) | (go_at_call 131; refine (SGH.out _).mono ?_; rintro rv w1 ⟨rfl, hb⟩; have ns : w.heap.size < w1.heap.size := hb.ltK; have n0 : w1.cell? ⟨w.heap.size, 0, none⟩ = some (.int .i64 e) := hb.cellK; have n1 : w1.cell? ⟨w.heap.size, 1, none⟩ = some (.int .i64 f) := hb.cellK; (first | (have nx := hx.trK hb; clear hx) | have nx := hb); clear hb; try clear hs; try clear g0; try clear g1; have hx := nx; clear nx; have hs := ns; clear ns; have g0 := n0; clear n0; have g1 := n1; clear n1))))
    all_goals (try go_wp2_with fail)
    all_goals go_ret
    all_goals exact ⟨rfl, Ext.auK⟩

set_option maxHeartbeats 1600000 in
theorem fText_fin (e f a s : Int) (hf : finB e f a = true) (s0 : 0 ≤ s) (s1 : s ≤ 1) (w : World) (hT : TXW w) : Calls Tryd.prog 89 #[.agg #[.int .i64 (a / pw (e + f)), .int .i64 ((odV (unitsV e f a)).natAbs : Int), .int .i64 ((shE (unitsV e f a) (unV e f)) - s)]] w fun rv w' => rv = .returned (.string ⟨(xtT e f a s).toArray⟩) ∧ Ext w w' := by
  have hap := (fin_pat hf).1
  have hm := sgn_01 hap
  by_cases hz : unitsV e f a = 0
  · have e1 : (odV (unitsV e f a)).natAbs = 0 := by rw [hz]; rfl
    have e2 : (shE (unitsV e f a) (unV e f)) = 0 := if_pos hz
    have ex : xtT e f a s = sgT (a / pw (e + f)) ++ fT 0 s.toNat 0 := by
      unfold xtT
      rw [if_pos hz]
      congr 1
      unfold fT
      rw [Nat.zero_div, decT_small (by decide), if_neg (by decide), frD]
      rfl
    rw [e1, e2, ex]
    exact fText_any _ hm 0 (0 - s) 0 s.toNat 0 0 (by simp) (by omega) (.inl rfl) (by omega) (by omega) (by omega) (by decide) (fun j hj => absurd hj (by omega)) (by simp) w hT
  · obtain ⟨N, K, d, j, h1, h2, h3, h4, h5, h6, h7, h8, h9, h10, h11, h12, h13⟩ := xt_form hf hz s s0 s1
    have ex : xtT e f a s = sgT (a / pw (e + f)) ++ fT (N * 2 ^ d) K K := by unfold xtT; rw [if_neg hz, h1, h10, h11, fT_exT]
    rw [ex, h1]
    refine fText_any _ hm N _ (N * 2 ^ d) K K d rfl h3 h4 h7 h7 h8 h12 (fun i hi => ?_) (frac_end _ _) w hT
    have hd : d = 0 := by omega
    rw [hd, Nat.pow_zero, Nat.mul_one]
    exact frac_left N K i h2 hi

theorem sExactText_no (e f a : Int) (hg : finB e f a = false) (w : World) : Calls Tryd.prog 36 #[fmt e f, .int .i64 a] w fun rv w' => rv = .returned (.tuple #[.string ⟨#[]⟩, .bool false]) ∧ Ext w w' := by
  go_enter Tryd.func36, Tryd.ntmps36
  go_wp2_with (go_at_call 60; refine (fmFinite_any e f a _).mono ?_; rintro rv w1 ⟨rfl, hb⟩; have ns : w.heap.size < w1.heap.size := hb.ltK; have n0 : w1.cell? ⟨w.heap.size, 0, none⟩ = some (.int .i64 e) := hb.cellK; have n1 : w1.cell? ⟨w.heap.size, 1, none⟩ = some (.int .i64 f) := hb.cellK; (first | (have nx := hx.trK hb; clear hx) | have nx := hb); clear hb; try clear hs; try clear g0; try clear g1; have hx := nx; clear nx; have hs := ns; clear ns; have g0 := n0; clear n0; have g1 := n1; clear n1)
  go_ret2
  exact ⟨rfl, Ext.auK⟩

theorem iExactText_no (e f a : Int) (hg : finB e f a = false) (w : World) (hT : TE2 w) : Calls Tryd.prog 37 #[fmt e f, .int .i64 a] w fun rv w' => rv = .returned (.tuple #[.string ⟨#[]⟩, .bool false]) ∧ Ext w w' := by
  go_enter Tryd.func37, Tryd.ntmps37
  go_wp2_with (go_at_call 63; refine (finiteAt_no e f a hg _).mono ?_; rintro rv w1 ⟨rfl, hb⟩; have ns : w.heap.size < w1.heap.size := hb.ltK; have n0 : w1.cell? ⟨w.heap.size, 0, none⟩ = some (.int .i64 e) := hb.cellK; have n1 : w1.cell? ⟨w.heap.size, 1, none⟩ = some (.int .i64 f) := hb.cellK; (first | (have nx := hx.trK hb; clear hx) | have nx := hb); clear hb; try clear hs; try clear g0; try clear g1; have hx := nx; clear nx; have hs := ns; clear ns; have g0 := n0; clear n0; have g1 := n1; clear n1)
  go_ret2
  exact ⟨rfl, Ext.auK⟩

theorem sExactText_yes (e f a : Int) (hg : finB e f a = true) (w : World) : Calls Tryd.prog 36 #[fmt e f, .int .i64 a] w fun rv w' => rv = .returned (.tuple #[.string ⟨(xtT e f a 0).toArray⟩, .bool true]) ∧ Ext w w' := by
  have TV := Lib.hid (fun w => txValue_any e f a 0 hg (by decide) (by decide) w)
  generalize xtT e f a 0 = x at *
  go_enter Tryd.func36, Tryd.ntmps36
  go_wp2_with (first | (go_at_call 60; refine (fmFinite_any e f a _).mono ?_; rintro rv w1 ⟨rfl, hb⟩; have ns : w.heap.size < w1.heap.size := hb.ltK; have n0 : w1.cell? ⟨w.heap.size, 0, none⟩ = some (.int .i64 e) := hb.cellK; have n1 : w1.cell? ⟨w.heap.size, 1, none⟩ = some (.int .i64 f) := hb.cellK; (first | (have nx := hx.trK hb; clear hx) | have nx := hb); clear hb; try clear hs; try clear g0; try clear g1; have hx := nx; clear nx; have hs := ns; clear ns; have g0 := n0; clear n0; have g1 := n1; clear n1) | (go_at_call 88; refine (TV.out _).mono ?_; rintro rv w1 ⟨rfl, hb⟩; have ns : w.heap.size < w1.heap.size := hb.ltK; have n0 : w1.cell? ⟨w.heap.size, 0, none⟩ = some (.int .i64 e) := hb.cellK; have n1 : w1.cell? ⟨w.heap.size, 1, none⟩ = some (.int .i64 f) := hb.cellK; (first | (have nx := hx.trK hb; clear hx) | have nx := hb); clear hb; try clear hs; try clear g0; try clear g1; have hx := nx; clear nx; have hs := ns; clear ns; have g0 := n0; clear n0; have g1 := n1; clear n1))
  go_ret2
  exact ⟨rfl, Ext.auK⟩

set_option maxHeartbeats 1600000 in
theorem iExactText_yes (e f a : Int) (hg : finB e f a = true) (w : World) (hT : TE2 w) : Calls Tryd.prog 37 #[fmt e f, .int .i64 a] w fun rv w' => rv = .returned (.tuple #[.string ⟨(xtT e f a 0).toArray⟩, .bool true]) ∧ Ext w w' := by
  have hx1 := hT.1
  have hx2 := hT.2
  have FY := Lib.hid (fun w hT => finiteAt_yes e f a hg w hT)
  have TV := fun w hT => fText_fin e f a 0 hg (by decide) (by decide) w hT
  rw [Int.sub_zero] at TV
  have TVH := Lib.hid TV
  clear TV hT
  generalize (a / pw (e + f)) = G at *
  generalize ((odV (unitsV e f a)).natAbs : Int) = N at *
  generalize (shE (unitsV e f a) (unV e f)) = X at *
  generalize xtT e f a 0 = x at *

  have BLD : ∀ (p q r : Int) w, (Instr.build 74 #[(0, .int .i64 p), (1, .int .i64 q), (2, .int .i64 r)]).run Tryd.prog w = .ok (.agg #[.int .i64 p, .int .i64 q, .int .i64 r]) w := fun p q r w => run_build w _ _ _ (by kernel_rfl)
  go_enter Tryd.func37, Tryd.ntmps37
  go_wp2_with (first | (go_at_call 63; refine (FY.out _ (hx1.ext Ext.auK)).mono ?_; rintro rv w1 ⟨rfl, hb⟩; have ns : w.heap.size < w1.heap.size := hb.ltK; have n0 : w1.cell? ⟨w.heap.size, 0, none⟩ = some (.int .i64 e) := hb.cellK; have n1 : w1.cell? ⟨w.heap.size, 1, none⟩ = some (.int .i64 f) := hb.cellK; (first | (have nx := hx.trK hb; clear hx) | have nx := hb); clear hb; try clear hs; try clear g0; try clear g1; have hx := nx; clear nx; have hs := ns; clear ns; have g0 := n0; clear n0; have g1 := n1; clear n1) | (go_at_call 89; refine (TVH.out _ (hx2.ext Ext.auK)).mono ?_; rintro rv w1 ⟨rfl, hb⟩; have ns : w.heap.size < w1.heap.size := hb.ltK; have n0 : w1.cell? ⟨w.heap.size, 0, none⟩ = some (.int .i64 e) := hb.cellK; have n1 : w1.cell? ⟨w.heap.size, 1, none⟩ = some (.int .i64 f) := hb.cellK; (first | (have nx := hx.trK hb; clear hx) | have nx := hb); clear hb; try clear hs; try clear g0; try clear g1; have hx := nx; clear nx; have hs := ns; clear ns; have g0 := n0; clear n0; have g1 := n1; clear n1))
  go_ret2
  exact ⟨rfl, Ext.auK⟩

theorem sHalfText_no (e f a : Int) (hg : finB e f a = false) (w : World) : Calls Tryd.prog 38 #[fmt e f, .int .i64 a] w fun rv w' => rv = .returned (.tuple #[.string ⟨#[]⟩, .bool false]) ∧ Ext w w' := by
  go_enter Tryd.func38, Tryd.ntmps38
  go_wp2_with (go_at_call 60; refine (fmFinite_any e f a _).mono ?_; rintro rv w1 ⟨rfl, hb⟩; have ns : w.heap.size < w1.heap.size := hb.ltK; have n0 : w1.cell? ⟨w.heap.size, 0, none⟩ = some (.int .i64 e) := hb.cellK; have n1 : w1.cell? ⟨w.heap.size, 1, none⟩ = some (.int .i64 f) := hb.cellK; (first | (have nx := hx.trK hb; clear hx) | have nx := hb); clear hb; try clear hs; try clear g0; try clear g1; have hx := nx; clear nx; have hs := ns; clear ns; have g0 := n0; clear n0; have g1 := n1; clear n1)
  go_ret2
  exact ⟨rfl, Ext.auK⟩

theorem iHalfText_no (e f a : Int) (hg : finB e f a = false) (w : World) (hT : TE2 w) : Calls Tryd.prog 39 #[fmt e f, .int .i64 a] w fun rv w' => rv = .returned (.tuple #[.string ⟨#[]⟩, .bool false]) ∧ Ext w w' := by
  go_enter Tryd.func39, Tryd.ntmps39
  go_wp2_with (go_at_call 63; refine (finiteAt_no e f a hg _).mono ?_; rintro rv w1 ⟨rfl, hb⟩; have ns : w.heap.size < w1.heap.size := hb.ltK; have n0 : w1.cell? ⟨w.heap.size, 0, none⟩ = some (.int .i64 e) := hb.cellK; have n1 : w1.cell? ⟨w.heap.size, 1, none⟩ = some (.int .i64 f) := hb.cellK; (first | (have nx := hx.trK hb; clear hx) | have nx := hb); clear hb; try clear hs; try clear g0; try clear g1; have hx := nx; clear nx; have hs := ns; clear ns; have g0 := n0; clear n0; have g1 := n1; clear n1)
  go_ret2
  exact ⟨rfl, Ext.auK⟩

theorem sHalfText_yes (e f a : Int) (hg : finB e f a = true) (w : World) : Calls Tryd.prog 38 #[fmt e f, .int .i64 a] w fun rv w' => rv = .returned (.tuple #[.string ⟨(xtT e f a 1).toArray⟩, .bool true]) ∧ Ext w w' := by
  have TV := Lib.hid (fun w => txValue_any e f a 1 hg (by decide) (by decide) w)
  generalize xtT e f a 1 = x at *
  go_enter Tryd.func38, Tryd.ntmps38
  go_wp2_with (first | (go_at_call 60; refine (fmFinite_any e f a _).mono ?_; rintro rv w1 ⟨rfl, hb⟩; have ns : w.heap.size < w1.heap.size := hb.ltK; have n0 : w1.cell? ⟨w.heap.size, 0, none⟩ = some (.int .i64 e) := hb.cellK; have n1 : w1.cell? ⟨w.heap.size, 1, none⟩ = some (.int .i64 f) := hb.cellK; (first | (have nx := hx.trK hb; clear hx) | have nx := hb); clear hb; try clear hs; try clear g0; try clear g1; have hx := nx; clear nx; have hs := ns; clear ns; have g0 := n0; clear n0; have g1 := n1; clear n1) | (go_at_call 88; refine (TV.out _).mono ?_; rintro rv w1 ⟨rfl, hb⟩; have ns : w.heap.size < w1.heap.size := hb.ltK; have n0 : w1.cell? ⟨w.heap.size, 0, none⟩ = some (.int .i64 e) := hb.cellK; have n1 : w1.cell? ⟨w.heap.size, 1, none⟩ = some (.int .i64 f) := hb.cellK; (first | (have nx := hx.trK hb; clear hx) | have nx := hb); clear hb; try clear hs; try clear g0; try clear g1; have hx := nx; clear nx; have hs := ns; clear ns; have g0 := n0; clear n0; have g1 := n1; clear n1))
  go_ret2
  exact ⟨rfl, Ext.auK⟩

set_option maxHeartbeats 1600000 in
theorem iHalfText_yes (e f a : Int) (hg : finB e f a = true) (w : World) (hT : TE2 w) : Calls Tryd.prog 39 #[fmt e f, .int .i64 a] w fun rv w' => rv = .returned (.tuple #[.string ⟨(xtT e f a 1).toArray⟩, .bool true]) ∧ Ext w w' := by
  have hx1 := hT.1
  have hx2 := hT.2
  have FY := Lib.hid (fun w hT => finiteAt_yes e f a hg w hT)
  have TV := fun w hT => fText_fin e f a 1 hg (by decide) (by decide) w hT
  obtain ⟨x0, x1⟩ := xa_bd hg
  have TVH := Lib.hid TV
  clear TV hT
  generalize (a / pw (e + f)) = G at *
  generalize ((odV (unitsV e f a)).natAbs : Int) = N at *
  generalize (shE (unitsV e f a) (unV e f)) = X at *
  generalize xtT e f a 1 = x at *
  have k1 : IntKind.i64.wrap (X - 1) = X - 1 := IntWalk.i64_in _ (by omega)
  have BLD : ∀ (p q r : Int) w, (Instr.build 74 #[(0, .int .i64 p), (1, .int .i64 q), (2, .int .i64 r)]).run Tryd.prog w = .ok (.agg #[.int .i64 p, .int .i64 q, .int .i64 r]) w := fun p q r w => run_build w _ _ _ (by kernel_rfl)
  go_enter Tryd.func39, Tryd.ntmps39
  go_wp2_with (first | (go_at_call 63; refine (FY.out _ (hx1.ext Ext.auK)).mono ?_; rintro rv w1 ⟨rfl, hb⟩; have ns : w.heap.size < w1.heap.size := hb.ltK; have n0 : w1.cell? ⟨w.heap.size, 0, none⟩ = some (.int .i64 e) := hb.cellK; have n1 : w1.cell? ⟨w.heap.size, 1, none⟩ = some (.int .i64 f) := hb.cellK; (first | (have nx := hx.trK hb; clear hx) | have nx := hb); clear hb; try clear hs; try clear g0; try clear g1; have hx := nx; clear nx; have hs := ns; clear ns; have g0 := n0; clear n0; have g1 := n1; clear n1) | (go_at_call 89; refine (TVH.out _ (hx2.ext Ext.auK)).mono ?_; rintro rv w1 ⟨rfl, hb⟩; have ns : w.heap.size < w1.heap.size := hb.ltK; have n0 : w1.cell? ⟨w.heap.size, 0, none⟩ = some (.int .i64 e) := hb.cellK; have n1 : w1.cell? ⟨w.heap.size, 1, none⟩ = some (.int .i64 f) := hb.cellK; (first | (have nx := hx.trK hb; clear hx) | have nx := hb); clear hb; try clear hs; try clear g0; try clear g1; have hx := nx; clear nx; have hs := ns; clear ns; have g0 := n0; clear n0; have g1 := n1; clear n1))
  go_ret2
  exact ⟨rfl, Ext.auK⟩
end Go.Proofs.YtfgbndjhaiigbabDoor

