/-
  Contracts of the functions that the laws reach, and the plain facts that they rest on, each under the conditions that its line names; part 32.
-/
import Derived.Test.YtfgbndjhaiigbaaGreatDoorKrm1
import Derived.Test.YtfgbndjhaiigbaaGreatDoorKrm2
import Derived.Test.YtfgbndjhaiigbaaGreatDoorKrm3
import Derived.Test.YtfgbndjhaiigbaaGreatDoorKrm4
import Derived.Test.YtfgbndjhaiigbaaGreatDoorKrm5
import Derived.Test.YtfgbndjhaiigbaaGreatDoorKrm6
import Derived.Test.YtfgbndjhaiigbaaGreatDoorKrm7
import Derived.Test.YtfgbndjhaiigbaaGreatDoorKrm8
import Derived.Test.YtfgbndjhaiigbaaGreatDoorKrm9
import Derived.Test.YtfgbndjhaiigbaaGreatDoorKrm10
import Derived.Test.YtfgbndjhaiigbaaGreatDoorKrm11
import Derived.Test.YtfgbndjhaiigbaaGreatDoorKrm12
import Derived.Test.YtfgbndjhaiigbaaGreatDoorKrm13
import Derived.Test.YtfgbndjhaiigbaaGreatDoorKrm14
import Derived.Test.YtfgbndjhaiigbaaGreatDoorKrm15
import Derived.Test.YtfgbndjhaiigbaaGreatDoorKrm16
import Derived.Test.YtfgbndjhaiigbaaGreatDoorKrm17
import Derived.Test.YtfgbndjhaiigbaaGreatDoorKrm18
import Derived.Test.YtfgbndjhaiigbaaGreatDoorKrm19
import Derived.Test.YtfgbndjhaiigbaaGreatDoorKrm20
import Derived.Test.YtfgbndjhaiigbaaGreatDoorKrm21
import Derived.Test.YtfgbndjhaiigbaaGreatDoorKrm22
import Derived.Test.YtfgbndjhaiigbaaGreatDoorKrm23
import Derived.Test.YtfgbndjhaiigbaaGreatDoorKrm24
import Derived.Test.YtfgbndjhaiigbaaGreatDoorKrm25
import Derived.Test.YtfgbndjhaiigbaaGreatDoorKrm26
import Derived.Test.YtfgbndjhaiigbaaGreatDoorKrm27
import Derived.Test.YtfgbndjhaiigbaaGreatDoorKrm28
import Derived.Test.YtfgbndjhaiigbaaGreatDoorKrm29
import Derived.Test.YtfgbndjhaiigbaaGreatDoorKrm30
import Derived.Test.YtfgbndjhaiigbaaGreatDoorKrm31
import Derived.Test.YtfgbndjhaiigbaaGreatDoorRows
import Derived.WalkKit
import Derived.Handy
import Derived.LoopTactic
import Derived.LoopN
import Derived.Laws.OwnMore
import Derived.OwnWalk
import Derived.Deep.AppendLies
import Derived.Laws.Bits64b
import Derived.WalkSpells
import Derived.WalkLawsBesides
import Derived.StillTactics
import Derived.Laws.Pointers
import Derived.Deep.RegionHeld3
import Derived.Deep.QuietTactic
import Derived.BigQuiet
import Derived.Outline
import Derived.Lib.Hide
import Derived.RowKit3
import Derived.Carry
import Derived.IntWalk
import Derived.Laws.EntriesVeiled
namespace Go.Proofs.YtfgbndjhaiigbaaGreatDoor
open Go Go.RowKit
set_option linter.unusedSimpArgs false
set_option linter.unusedVariables false
set_option maxRecDepth 100000

theorem ofTwoR_bad (e f a b mode : Int) (v : Value) (hg : abB e f a b mode = false) (w : World) (hT : TW w) : Calls Tryz.prog 64 #[fmt e f, .int .i64 a, .int .i64 b, .int .i64 mode, v] w fun rv w' => rv = .returned (.tuple #[.int .i64 0, .bool false]) ∧ Ext w w' := by
  have g1 : moB mode = false ∨ (moB mode = true ∧ patB e f a = false) ∨ (moB mode = true ∧ patB e f a = true ∧ patB e f b = false) := by
    cases h0 : moB mode
    · exact Or.inl rfl
    · rcases ab_no hg with h | ⟨h, h2⟩ | ⟨_, _, h2⟩
      · exact Or.inr (Or.inl ⟨rfl, h⟩)
      · exact Or.inr (Or.inr ⟨rfl, h, h2⟩)
      · rw [h0] at h2; cases h2
  rcases g1 with h0 | ⟨h0, h1⟩ | ⟨h0, h1, h2⟩
  · go_enter Tryz.func64, Tryz.ntmps64
    go_wp2_with (go_at_call 73; (with_reducible refine (operandsOf_mode e f mode _ h0 _).mono ?_); rintro rv w1 ⟨rfl, hb⟩; have hx : Ext w w1 := Ext.trans Ext.auK hb; clear hb)
    go_ret2
    exact ⟨rfl, hx⟩
  · go_enter Tryz.func64, Tryz.ntmps64
    go_wp2_with (go_at_call 73; (with_reducible refine (operandsOf2_na e f mode a b (w.heap.size + 1) h0 h1 _ (hT.ext Ext.auK) (by first | with_reducible assumption | (simp; done) | (simp [go_sem]; done)) (by first | with_reducible assumption | (simp; done) | (simp [go_sem]; done)) (by simp; try omega)).mono ?_); rintro rv w1 ⟨rfl, hb⟩; have hx : Ext w w1 := Ext.trans Ext.auK hb; clear hb)
    go_ret2
    exact ⟨rfl, hx⟩
  · go_enter Tryz.func64, Tryz.ntmps64
    go_wp2_with (go_at_call 73; (with_reducible refine (operandsOf2_nb e f mode a b (w.heap.size + 1) h0 h1 h2 _ (hT.ext Ext.auK) (by first | with_reducible assumption | (simp; done) | (simp [go_sem]; done)) (by first | with_reducible assumption | (simp; done) | (simp [go_sem]; done)) (by simp; try omega)).mono ?_); rintro rv w1 ⟨rfl, hb⟩; have hx : Ext w w1 := Ext.trans Ext.auK hb; clear hb)
    go_ret2
    exact ⟨rfl, hx⟩

theorem iRemainderOf_no (e f a b : Int) (hg : reB e f a b = false) (w : World) (hT : TW w) : Calls Tryz.prog 41 #[fmt e f, .int .i64 a, .int .i64 b] w fun rv w' => rv = .returned (.tuple #[.int .i64 0, .bool false]) ∧ Ext w w' := by
  have hg2 : abB e f a b 0 = false := by
    unfold reB at hg
    unfold abB
    cases h0 : patB e f a <;> rw [h0] at hg
    · rfl
    · have h1 : patB e f b = false := by simpa using hg
      rw [h1]; rfl
  go_enter Tryz.func41, Tryz.ntmps41
  go_wp2_with (go_at_call 64; refine (ofTwoR_bad e f a b 0 _ hg2 _ (hT.ext Ext.auK)).mono ?_; rintro rv w1 ⟨rfl, hb⟩; have ns : w.heap.size < w1.heap.size := hb.ltK; have n0 : w1.cell? ⟨w.heap.size, 0, none⟩ = some (.int .i64 e) := hb.cellK; have n1 : w1.cell? ⟨w.heap.size, 1, none⟩ = some (.int .i64 f) := hb.cellK; (first | (have nx := Ext.trans hx hb; clear hx) | (have nx := Ext.trans (hx.alloc _) hb; clear hx) | (have nx := Ext.trans hx.drew hb; clear hx) | have nx := hb); clear hb; try clear hs; try clear g0; try clear g1; have hx := nx; clear nx; have hs := ns; clear ns; have g0 := n0; clear n0; have g1 := n1; clear n1)
  go_ret2
  exact ⟨rfl, Ext.auK⟩

theorem re_zero {e f n k mode s : Int} {neg : Bool} (hg : goodB e f = true) (h : n = 0) (hq : RndD e f n k mode neg s) : s = 0 := by
  subst h
  exact rnd_one (good_iff.1 hg).2.2.1 (by have := pw_pos 149; omega) hq (rnd_null hg)

/-- The rest in code, and that in units. -/
theorem re_units {e f a b : Int} (hap : patB e f a = true) (hbp : patB e f b = true) (nb : (unitsV e f b) ≠ 0) (hm : (unV e f) ≤ (min (shE (unitsV e f a) (unV e f)) (shE (unitsV e f b) (unV e f)))) : (if (a / pw (e + f)) = 1 then -((((odV (unitsV e f a)).natAbs : Int) * pw ((shE (unitsV e f a) (unV e f)) - (min (shE (unitsV e f a) (unV e f)) (shE (unitsV e f b) (unV e f))))) - (((odV (unitsV e f b)).natAbs : Int) * pw ((shE (unitsV e f b) (unV e f)) - (min (shE (unitsV e f a) (unV e f)) (shE (unitsV e f b) (unV e f))))) * (whV (((odV (unitsV e f a)).natAbs : Int) * pw ((shE (unitsV e f a) (unV e f)) - (min (shE (unitsV e f a) (unV e f)) (shE (unitsV e f b) (unV e f))))) (((odV (unitsV e f b)).natAbs : Int) * pw ((shE (unitsV e f b) (unV e f)) - (min (shE (unitsV e f a) (unV e f)) (shE (unitsV e f b) (unV e f))))) 0 false)) else (((odV (unitsV e f a)).natAbs : Int) * pw ((shE (unitsV e f a) (unV e f)) - (min (shE (unitsV e f a) (unV e f)) (shE (unitsV e f b) (unV e f))))) - (((odV (unitsV e f b)).natAbs : Int) * pw ((shE (unitsV e f b) (unV e f)) - (min (shE (unitsV e f a) (unV e f)) (shE (unitsV e f b) (unV e f))))) * (whV (((odV (unitsV e f a)).natAbs : Int) * pw ((shE (unitsV e f a) (unV e f)) - (min (shE (unitsV e f a) (unV e f)) (shE (unitsV e f b) (unV e f))))) (((odV (unitsV e f b)).natAbs : Int) * pw ((shE (unitsV e f b) (unV e f)) - (min (shE (unitsV e f a) (unV e f)) (shE (unitsV e f b) (unV e f))))) 0 false)) * pw ((min (shE (unitsV e f a) (unV e f)) (shE (unitsV e f b) (unV e f))) - (unV e f)) = (rmV e f a b) := by
  have q := pw_pos ((min (shE (unitsV e f a) (unV e f)) (shE (unitsV e f b) (unV e f))) - (unV e f))
  have q2 := pw_pos ((shE (unitsV e f b) (unV e f)) - (min (shE (unitsV e f a) (unV e f)) (shE (unitsV e f b) (unV e f))))
  have ea : (((odV (unitsV e f a)).natAbs : Int) * pw ((shE (unitsV e f a) (unV e f)) - (min (shE (unitsV e f a) (unV e f)) (shE (unitsV e f b) (unV e f))))) * pw ((min (shE (unitsV e f a) (unV e f)) (shE (unitsV e f b) (unV e f))) - (unV e f)) = (((unitsV e f a)).natAbs : Int) := by
    rw [Int.mul_assoc, ← pw_add _ _ (by omega) (by omega), show (shE (unitsV e f a) (unV e f)) - (min (shE (unitsV e f a) (unV e f)) (shE (unitsV e f b) (unV e f))) + ((min (shE (unitsV e f a) (unV e f)) (shE (unitsV e f b) (unV e f))) - (unV e f)) = (shE (unitsV e f a) (unV e f)) - (unV e f) by omega]
    exact un_size hap
  have eb : (((odV (unitsV e f b)).natAbs : Int) * pw ((shE (unitsV e f b) (unV e f)) - (min (shE (unitsV e f a) (unV e f)) (shE (unitsV e f b) (unV e f))))) * pw ((min (shE (unitsV e f a) (unV e f)) (shE (unitsV e f b) (unV e f))) - (unV e f)) = ((unitsV e f b).natAbs : Int) := by
    rw [Int.mul_assoc, ← pw_add _ _ (by omega) (by omega), show (shE (unitsV e f b) (unV e f)) - (min (shE (unitsV e f a) (unV e f)) (shE (unitsV e f b) (unV e f))) + ((min (shE (unitsV e f a) (unV e f)) (shE (unitsV e f b) (unV e f))) - (unV e f)) = (shE (unitsV e f b) (unV e f)) - (unV e f) by omega]
    exact un_size hbp
  have ubB := units_bd e f b hbp
  have B0 : 0 < (((odV (unitsV e f b)).natAbs : Int) * pw ((shE (unitsV e f b) (unV e f)) - (min (shE (unitsV e f a) (unV e f)) (shE (unitsV e f b) (unV e f))))) := by
    have h0 : 0 ≤ (((odV (unitsV e f b)).natAbs : Int) * pw ((shE (unitsV e f b) (unV e f)) - (min (shE (unitsV e f a) (unV e f)) (shE (unitsV e f b) (unV e f))))) := Int.mul_nonneg (by omega) (by omega)
    rcases Int.lt_or_eq_of_le h0 with h | h
    · exact h
    · rw [← h, Int.zero_mul] at eb
      omega
  have key : ((((odV (unitsV e f a)).natAbs : Int) * pw ((shE (unitsV e f a) (unV e f)) - (min (shE (unitsV e f a) (unV e f)) (shE (unitsV e f b) (unV e f))))) - (((odV (unitsV e f b)).natAbs : Int) * pw ((shE (unitsV e f b) (unV e f)) - (min (shE (unitsV e f a) (unV e f)) (shE (unitsV e f b) (unV e f))))) * (whV (((odV (unitsV e f a)).natAbs : Int) * pw ((shE (unitsV e f a) (unV e f)) - (min (shE (unitsV e f a) (unV e f)) (shE (unitsV e f b) (unV e f))))) (((odV (unitsV e f b)).natAbs : Int) * pw ((shE (unitsV e f b) (unV e f)) - (min (shE (unitsV e f a) (unV e f)) (shE (unitsV e f b) (unV e f))))) 0 false)) * pw ((min (shE (unitsV e f a) (unV e f)) (shE (unitsV e f b) (unV e f))) - (unV e f)) = (((unitsV e f a)).natAbs : Int) - ((unitsV e f b).natAbs : Int) * whV (((unitsV e f a)).natAbs : Int) ((unitsV e f b).natAbs : Int) 0 false := by
    rw [← ea, ← eb, wh_mul (by omega) B0, Int.sub_mul, Int.mul_assoc (((odV (unitsV e f b)).natAbs : Int) * pw ((shE (unitsV e f b) (unV e f)) - (min (shE (unitsV e f a) (unV e f)) (shE (unitsV e f b) (unV e f))))), Int.mul_comm (whV (((odV (unitsV e f a)).natAbs : Int) * pw ((shE (unitsV e f a) (unV e f)) - (min (shE (unitsV e f a) (unV e f)) (shE (unitsV e f b) (unV e f))))) (((odV (unitsV e f b)).natAbs : Int) * pw ((shE (unitsV e f b) (unV e f)) - (min (shE (unitsV e f a) (unV e f)) (shE (unitsV e f b) (unV e f))))) 0 false), ← Int.mul_assoc (((odV (unitsV e f b)).natAbs : Int) * pw ((shE (unitsV e f b) (unV e f)) - (min (shE (unitsV e f a) (unV e f)) (shE (unitsV e f b) (unV e f)))))]
  unfold rmV
  rw [nr_form, ← key]
  by_cases hz : (unitsV e f a) = 0
  · have e0 : (((odV (unitsV e f a)).natAbs : Int) * pw ((shE (unitsV e f a) (unV e f)) - (min (shE (unitsV e f a) (unV e f)) (shE (unitsV e f b) (unV e f))))) = 0 := by
      have h0 : (((unitsV e f a)).natAbs : Int) = 0 := by rw [hz]; rfl
      rw [h0] at ea
      rcases Int.mul_eq_zero.1 ea with h | h
      · exact h
      · omega
    rw [e0, wh_null, Int.mul_zero, Int.sub_self]
    split <;> split <;> simp
  · have us := units_sign hap hz
    by_cases h : (a / pw (e + f)) = 1
    · rw [if_pos h, if_pos (us.2 h), Int.neg_mul]
    · rw [if_neg h, if_neg (fun g => h (us.1 g))]

theorem re_neg {e f R k r s : Int} (hk : 0 ≤ k) (h : R < 0) (hr : R * pw k = r) (hq : RndD e f (-R) k 0 ((1 : Int) == 1) s) : r < 0 ∧ s + 1 * pw (e + f) = sgP e f r s ∧ RndD e f (r.natAbs : Int) 0 0 (decide (r < 0)) s := by
  have q := pw_pos k
  have r0 : r < 0 := by rw [← hr]; exact Int.mul_neg_of_neg_of_pos h (by omega)
  refine ⟨r0, by unfold sgP; rw [if_pos r0]; omega, ?_⟩
  rw [decide_eq_true r0]
  unfold RndD at hq ⊢
  have e : (r.natAbs : Int) * pw (0 + 149) = -R * pw (k + 149) := by
    rw [pw_add k 149 hk (by omega), ← Int.mul_assoc, Int.neg_mul, hr]
    congr 1
    omega
  rw [e]
  exact hq

theorem re_pos {e f R k r s : Int} (hk : 0 ≤ k) (h : 0 < R) (hr : R * pw k = r) (hq : RndD e f R k 0 ((0 : Int) == 1) s) : 0 < r ∧ s + 0 * pw (e + f) = sgP e f r s ∧ RndD e f (r.natAbs : Int) 0 0 (decide (r < 0)) s := by
  have q := pw_pos k
  have r0 : 0 < r := by rw [← hr]; exact Int.mul_pos h (by omega)
  refine ⟨r0, by unfold sgP; rw [if_neg (by omega)]; omega, ?_⟩
  rw [decide_eq_false (show ¬ r < 0 by omega)]
  unfold RndD at hq ⊢
  have e : (r.natAbs : Int) * pw (0 + 149) = R * pw (k + 149) := by
    rw [pw_add k 149 hk (by omega), ← Int.mul_assoc, hr]
    congr 1
    omega
  rw [e]
  exact hq

theorem iRemainderOf_xx (e f a b : Int) (hg : reB e f a b = true) (ka : kindV e f a = 4) (fa : finB e f a = false) (na : numB e f a = false) (kb : kindV e f b = 4) (fb : finB e f b = false) (nb : numB e f b = false) (w : World) (hT : TW w) : Calls Tryz.prog 41 #[fmt e f, .int .i64 a, .int .i64 b] w (ARboth (ReD e f a b) w) := by
  obtain ⟨hap, hbp⟩ := re_iff.1 hg
  have hg0 := (pat_iff.1 hap).1
  have sga := sign_01 hap
  obtain ⟨ua1, ua2, ua3, ua4, ua5⟩ := un_small hap
  obtain ⟨ub1, ub2, ub3, ub4, ub5⟩ := un_small hbp
  have u1 := un_bd (pat_iff.1 hap).1
  have xa : (unV e f) ≤ (shE (unitsV e f a) (unV e f)) ∧ (shE (unitsV e f a) (unV e f)) ≤ 41 ∧ (shE (unitsV e f a) (unV e f)) - (unV e f) ≤ 42 := by
    by_cases h : (unitsV e f a) = 0
    · have := ua5 h; omega
    · have := ua4 h; omega
  have oa := op_no (e := e) (f := f) (p := a) fa na
  have ob := op_no (e := e) (f := f) (p := b) fb nb
  have OC := Lib.hid (fun (w : World) (hT : TW w) => ofTwoRest_no e f a b 0 hap hbp (by omega) (by omega) (fun w => by rw [oa, ob]; exact rest_nn w) w hT)
  clear oa ob ua1 ua2 ua3 ua4 ua5 ub1 ub2 ub3 ub4 ub5 u1 xa
  go_enter Tryz.func41, Tryz.ntmps41
  go_wp2_with (go_at_call 64; refine (OC.out _ (hT.ext Ext.auK)).mono ?_; rintro rv w1 ⟨rfl, hb⟩; have ns : w.heap.size < w1.heap.size := hb.ltK; have n0 : w1.cell? ⟨w.heap.size, 0, none⟩ = some (.int .i64 e) := hb.cellK; have n1 : w1.cell? ⟨w.heap.size, 1, none⟩ = some (.int .i64 f) := hb.cellK; (first | (have nx := Ext.trans hx hb; clear hx) | (have nx := Ext.trans (hx.alloc _) hb; clear hx) | (have nx := Ext.trans hx.drew hb; clear hx) | have nx := hb); clear hb; try clear hs; try clear g0; try clear g1; have hx := nx; clear nx; have hs := ns; clear ns; have g0 := n0; clear n0; have g1 := n1; clear n1)
  go_ret2
  exact ⟨_, rfl, Or.inl ⟨by unfold rqP; omega, rfl⟩, Ext.auK⟩

theorem iRemainderOf_xi (e f a b : Int) (hg : reB e f a b = true) (ka : kindV e f a = 4) (fa : finB e f a = false) (na : numB e f a = false) (kb : kindV e f b = 3) (fb : finB e f b = false) (nb : numB e f b = true) (w : World) (hT : TW w) : Calls Tryz.prog 41 #[fmt e f, .int .i64 a, .int .i64 b] w (ARboth (ReD e f a b) w) := by
  obtain ⟨hap, hbp⟩ := re_iff.1 hg
  have hg0 := (pat_iff.1 hap).1
  have sga := sign_01 hap
  obtain ⟨ua1, ua2, ua3, ua4, ua5⟩ := un_small hap
  obtain ⟨ub1, ub2, ub3, ub4, ub5⟩ := un_small hbp
  have u1 := un_bd (pat_iff.1 hap).1
  have xa : (unV e f) ≤ (shE (unitsV e f a) (unV e f)) ∧ (shE (unitsV e f a) (unV e f)) ≤ 41 ∧ (shE (unitsV e f a) (unV e f)) - (unV e f) ≤ 42 := by
    by_cases h : (unitsV e f a) = 0
    · have := ua5 h; omega
    · have := ua4 h; omega
  have oa := op_no (e := e) (f := f) (p := a) fa na
  have ob := op_inf (e := e) (f := f) (p := b) fb nb
  have OC := Lib.hid (fun (w : World) (hT : TW w) => ofTwoRest_no e f a b 0 hap hbp (by omega) (by omega) (fun w => by rw [oa, ob]; exact rest_ni (b / pw (e + f)) w) w hT)
  clear oa ob ua1 ua2 ua3 ua4 ua5 ub1 ub2 ub3 ub4 ub5 u1 xa
  go_enter Tryz.func41, Tryz.ntmps41
  go_wp2_with (go_at_call 64; refine (OC.out _ (hT.ext Ext.auK)).mono ?_; rintro rv w1 ⟨rfl, hb⟩; have ns : w.heap.size < w1.heap.size := hb.ltK; have n0 : w1.cell? ⟨w.heap.size, 0, none⟩ = some (.int .i64 e) := hb.cellK; have n1 : w1.cell? ⟨w.heap.size, 1, none⟩ = some (.int .i64 f) := hb.cellK; (first | (have nx := Ext.trans hx hb; clear hx) | (have nx := Ext.trans (hx.alloc _) hb; clear hx) | (have nx := Ext.trans hx.drew hb; clear hx) | have nx := hb); clear hb; try clear hs; try clear g0; try clear g1; have hx := nx; clear nx; have hs := ns; clear ns; have g0 := n0; clear n0; have g1 := n1; clear n1)
  go_ret2
  exact ⟨_, rfl, Or.inl ⟨by unfold rqP; omega, rfl⟩, Ext.auK⟩

theorem iRemainderOf_xv (e f a b : Int) (hg : reB e f a b = true) (ka : kindV e f a = 4) (fa : finB e f a = false) (na : numB e f a = false) (kb : kindV e f b < 3) (fb : finB e f b = true) (w : World) (hT : TW w) : Calls Tryz.prog 41 #[fmt e f, .int .i64 a, .int .i64 b] w (ARboth (ReD e f a b) w) := by
  obtain ⟨hap, hbp⟩ := re_iff.1 hg
  have hg0 := (pat_iff.1 hap).1
  have sga := sign_01 hap
  obtain ⟨ua1, ua2, ua3, ua4, ua5⟩ := un_small hap
  obtain ⟨ub1, ub2, ub3, ub4, ub5⟩ := un_small hbp
  have u1 := un_bd (pat_iff.1 hap).1
  have xa : (unV e f) ≤ (shE (unitsV e f a) (unV e f)) ∧ (shE (unitsV e f a) (unV e f)) ≤ 41 ∧ (shE (unitsV e f a) (unV e f)) - (unV e f) ≤ 42 := by
    by_cases h : (unitsV e f a) = 0
    · have := ua5 h; omega
    · have := ua4 h; omega
  have oa := op_no (e := e) (f := f) (p := a) fa na
  have ob := op_fin (e := e) (f := f) (p := b) fb
  have OC := Lib.hid (fun (w : World) (hT : TW w) => ofTwoRest_no e f a b 0 hap hbp (by omega) (by omega) (fun w => by rw [oa, ob]; exact rest_nf (b / pw (e + f)) ((odV (unitsV e f b)).natAbs : Int) (shE (unitsV e f b) (unV e f)) w) w hT)
  clear oa ob ua1 ua2 ua3 ua4 ua5 ub1 ub2 ub3 ub4 ub5 u1 xa
  go_enter Tryz.func41, Tryz.ntmps41
  go_wp2_with (go_at_call 64; refine (OC.out _ (hT.ext Ext.auK)).mono ?_; rintro rv w1 ⟨rfl, hb⟩; have ns : w.heap.size < w1.heap.size := hb.ltK; have n0 : w1.cell? ⟨w.heap.size, 0, none⟩ = some (.int .i64 e) := hb.cellK; have n1 : w1.cell? ⟨w.heap.size, 1, none⟩ = some (.int .i64 f) := hb.cellK; (first | (have nx := Ext.trans hx hb; clear hx) | (have nx := Ext.trans (hx.alloc _) hb; clear hx) | (have nx := Ext.trans hx.drew hb; clear hx) | have nx := hb); clear hb; try clear hs; try clear g0; try clear g1; have hx := nx; clear nx; have hs := ns; clear ns; have g0 := n0; clear n0; have g1 := n1; clear n1)
  go_ret2
  exact ⟨_, rfl, Or.inl ⟨by unfold rqP; omega, rfl⟩, Ext.auK⟩

theorem iRemainderOf_ix (e f a b : Int) (hg : reB e f a b = true) (ka : kindV e f a = 3) (fa : finB e f a = false) (na : numB e f a = true) (kb : kindV e f b = 4) (fb : finB e f b = false) (nb : numB e f b = false) (w : World) (hT : TW w) : Calls Tryz.prog 41 #[fmt e f, .int .i64 a, .int .i64 b] w (ARboth (ReD e f a b) w) := by
  obtain ⟨hap, hbp⟩ := re_iff.1 hg
  have hg0 := (pat_iff.1 hap).1
  have sga := sign_01 hap
  obtain ⟨ua1, ua2, ua3, ua4, ua5⟩ := un_small hap
  obtain ⟨ub1, ub2, ub3, ub4, ub5⟩ := un_small hbp
  have u1 := un_bd (pat_iff.1 hap).1
  have xa : (unV e f) ≤ (shE (unitsV e f a) (unV e f)) ∧ (shE (unitsV e f a) (unV e f)) ≤ 41 ∧ (shE (unitsV e f a) (unV e f)) - (unV e f) ≤ 42 := by
    by_cases h : (unitsV e f a) = 0
    · have := ua5 h; omega
    · have := ua4 h; omega
  have oa := op_inf (e := e) (f := f) (p := a) fa na
  have ob := op_no (e := e) (f := f) (p := b) fb nb
  have OC := Lib.hid (fun (w : World) (hT : TW w) => ofTwoRest_no e f a b 0 hap hbp (by omega) (by omega) (fun w => by rw [oa, ob]; exact rest_in (a / pw (e + f)) w) w hT)
  clear oa ob ua1 ua2 ua3 ua4 ua5 ub1 ub2 ub3 ub4 ub5 u1 xa
  go_enter Tryz.func41, Tryz.ntmps41
  go_wp2_with (go_at_call 64; refine (OC.out _ (hT.ext Ext.auK)).mono ?_; rintro rv w1 ⟨rfl, hb⟩; have ns : w.heap.size < w1.heap.size := hb.ltK; have n0 : w1.cell? ⟨w.heap.size, 0, none⟩ = some (.int .i64 e) := hb.cellK; have n1 : w1.cell? ⟨w.heap.size, 1, none⟩ = some (.int .i64 f) := hb.cellK; (first | (have nx := Ext.trans hx hb; clear hx) | (have nx := Ext.trans (hx.alloc _) hb; clear hx) | (have nx := Ext.trans hx.drew hb; clear hx) | have nx := hb); clear hb; try clear hs; try clear g0; try clear g1; have hx := nx; clear nx; have hs := ns; clear ns; have g0 := n0; clear n0; have g1 := n1; clear n1)
  go_ret2
  exact ⟨_, rfl, Or.inl ⟨by unfold rqP; omega, rfl⟩, Ext.auK⟩

theorem iRemainderOf_ii (e f a b : Int) (hg : reB e f a b = true) (ka : kindV e f a = 3) (fa : finB e f a = false) (na : numB e f a = true) (kb : kindV e f b = 3) (fb : finB e f b = false) (nb : numB e f b = true) (w : World) (hT : TW w) : Calls Tryz.prog 41 #[fmt e f, .int .i64 a, .int .i64 b] w (ARboth (ReD e f a b) w) := by
  obtain ⟨hap, hbp⟩ := re_iff.1 hg
  have hg0 := (pat_iff.1 hap).1
  have sga := sign_01 hap
  obtain ⟨ua1, ua2, ua3, ua4, ua5⟩ := un_small hap
  obtain ⟨ub1, ub2, ub3, ub4, ub5⟩ := un_small hbp
  have u1 := un_bd (pat_iff.1 hap).1
  have xa : (unV e f) ≤ (shE (unitsV e f a) (unV e f)) ∧ (shE (unitsV e f a) (unV e f)) ≤ 41 ∧ (shE (unitsV e f a) (unV e f)) - (unV e f) ≤ 42 := by
    by_cases h : (unitsV e f a) = 0
    · have := ua5 h; omega
    · have := ua4 h; omega
  have oa := op_inf (e := e) (f := f) (p := a) fa na
  have ob := op_inf (e := e) (f := f) (p := b) fb nb
  have OC := Lib.hid (fun (w : World) (hT : TW w) => ofTwoRest_no e f a b 0 hap hbp (by omega) (by omega) (fun w => by rw [oa, ob]; exact rest_ii (a / pw (e + f)) (b / pw (e + f)) w) w hT)
  clear oa ob ua1 ua2 ua3 ua4 ua5 ub1 ub2 ub3 ub4 ub5 u1 xa
  go_enter Tryz.func41, Tryz.ntmps41
  go_wp2_with (go_at_call 64; refine (OC.out _ (hT.ext Ext.auK)).mono ?_; rintro rv w1 ⟨rfl, hb⟩; have ns : w.heap.size < w1.heap.size := hb.ltK; have n0 : w1.cell? ⟨w.heap.size, 0, none⟩ = some (.int .i64 e) := hb.cellK; have n1 : w1.cell? ⟨w.heap.size, 1, none⟩ = some (.int .i64 f) := hb.cellK; (first | (have nx := Ext.trans hx hb; clear hx) | (have nx := Ext.trans (hx.alloc _) hb; clear hx) | (have nx := Ext.trans hx.drew hb; clear hx) | have nx := hb); clear hb; try clear hs; try clear g0; try clear g1; have hx := nx; clear nx; have hs := ns; clear ns; have g0 := n0; clear n0; have g1 := n1; clear n1)
  go_ret2
  exact ⟨_, rfl, Or.inl ⟨by unfold rqP; omega, rfl⟩, Ext.auK⟩

theorem iRemainderOf_iv (e f a b : Int) (hg : reB e f a b = true) (ka : kindV e f a = 3) (fa : finB e f a = false) (na : numB e f a = true) (kb : kindV e f b < 3) (fb : finB e f b = true) (w : World) (hT : TW w) : Calls Tryz.prog 41 #[fmt e f, .int .i64 a, .int .i64 b] w (ARboth (ReD e f a b) w) := by
  obtain ⟨hap, hbp⟩ := re_iff.1 hg
  have hg0 := (pat_iff.1 hap).1
  have sga := sign_01 hap
  obtain ⟨ua1, ua2, ua3, ua4, ua5⟩ := un_small hap
  obtain ⟨ub1, ub2, ub3, ub4, ub5⟩ := un_small hbp
  have u1 := un_bd (pat_iff.1 hap).1
  have xa : (unV e f) ≤ (shE (unitsV e f a) (unV e f)) ∧ (shE (unitsV e f a) (unV e f)) ≤ 41 ∧ (shE (unitsV e f a) (unV e f)) - (unV e f) ≤ 42 := by
    by_cases h : (unitsV e f a) = 0
    · have := ua5 h; omega
    · have := ua4 h; omega
  have oa := op_inf (e := e) (f := f) (p := a) fa na
  have ob := op_fin (e := e) (f := f) (p := b) fb
  have OC := Lib.hid (fun (w : World) (hT : TW w) => ofTwoRest_no e f a b 0 hap hbp (by omega) (by omega) (fun w => by rw [oa, ob]; exact rest_if (a / pw (e + f)) (b / pw (e + f)) ((odV (unitsV e f b)).natAbs : Int) (shE (unitsV e f b) (unV e f)) w) w hT)
  clear oa ob ua1 ua2 ua3 ua4 ua5 ub1 ub2 ub3 ub4 ub5 u1 xa
  go_enter Tryz.func41, Tryz.ntmps41
  go_wp2_with (go_at_call 64; refine (OC.out _ (hT.ext Ext.auK)).mono ?_; rintro rv w1 ⟨rfl, hb⟩; have ns : w.heap.size < w1.heap.size := hb.ltK; have n0 : w1.cell? ⟨w.heap.size, 0, none⟩ = some (.int .i64 e) := hb.cellK; have n1 : w1.cell? ⟨w.heap.size, 1, none⟩ = some (.int .i64 f) := hb.cellK; (first | (have nx := Ext.trans hx hb; clear hx) | (have nx := Ext.trans (hx.alloc _) hb; clear hx) | (have nx := Ext.trans hx.drew hb; clear hx) | have nx := hb); clear hb; try clear hs; try clear g0; try clear g1; have hx := nx; clear nx; have hs := ns; clear ns; have g0 := n0; clear n0; have g1 := n1; clear n1)
  go_ret2
  exact ⟨_, rfl, Or.inl ⟨by unfold rqP; omega, rfl⟩, Ext.auK⟩

theorem iRemainderOf_vx (e f a b : Int) (hg : reB e f a b = true) (ka : kindV e f a < 3) (fa : finB e f a = true) (kb : kindV e f b = 4) (fb : finB e f b = false) (nb : numB e f b = false) (w : World) (hT : TW w) : Calls Tryz.prog 41 #[fmt e f, .int .i64 a, .int .i64 b] w (ARboth (ReD e f a b) w) := by
  obtain ⟨hap, hbp⟩ := re_iff.1 hg
  have hg0 := (pat_iff.1 hap).1
  have sga := sign_01 hap
  obtain ⟨ua1, ua2, ua3, ua4, ua5⟩ := un_small hap
  obtain ⟨ub1, ub2, ub3, ub4, ub5⟩ := un_small hbp
  have u1 := un_bd (pat_iff.1 hap).1
  have xa : (unV e f) ≤ (shE (unitsV e f a) (unV e f)) ∧ (shE (unitsV e f a) (unV e f)) ≤ 41 ∧ (shE (unitsV e f a) (unV e f)) - (unV e f) ≤ 42 := by
    by_cases h : (unitsV e f a) = 0
    · have := ua5 h; omega
    · have := ua4 h; omega
  have oa := op_fin (e := e) (f := f) (p := a) fa
  have ob := op_no (e := e) (f := f) (p := b) fb nb
  have OC := Lib.hid (fun (w : World) (hT : TW w) => ofTwoRest_no e f a b 0 hap hbp (by omega) (by omega) (fun w => by rw [oa, ob]; exact rest_fn (a / pw (e + f)) ((odV (unitsV e f a)).natAbs : Int) (shE (unitsV e f a) (unV e f)) w) w hT)
  clear oa ob ua1 ua2 ua3 ua4 ua5 ub1 ub2 ub3 ub4 ub5 u1 xa
  go_enter Tryz.func41, Tryz.ntmps41
  go_wp2_with (go_at_call 64; refine (OC.out _ (hT.ext Ext.auK)).mono ?_; rintro rv w1 ⟨rfl, hb⟩; have ns : w.heap.size < w1.heap.size := hb.ltK; have n0 : w1.cell? ⟨w.heap.size, 0, none⟩ = some (.int .i64 e) := hb.cellK; have n1 : w1.cell? ⟨w.heap.size, 1, none⟩ = some (.int .i64 f) := hb.cellK; (first | (have nx := Ext.trans hx hb; clear hx) | (have nx := Ext.trans (hx.alloc _) hb; clear hx) | (have nx := Ext.trans hx.drew hb; clear hx) | have nx := hb); clear hb; try clear hs; try clear g0; try clear g1; have hx := nx; clear nx; have hs := ns; clear ns; have g0 := n0; clear n0; have g1 := n1; clear n1)
  go_ret2
  exact ⟨_, rfl, Or.inl ⟨by unfold rqP; omega, rfl⟩, Ext.auK⟩

theorem iRemainderOf_vi (e f a b : Int) (hg : reB e f a b = true) (ka : kindV e f a < 3) (fa : finB e f a = true) (kb : kindV e f b = 3) (fb : finB e f b = false) (nb : numB e f b = true) (w : World) (hT : TW w) : Calls Tryz.prog 41 #[fmt e f, .int .i64 a, .int .i64 b] w (ARboth (ReD e f a b) w) := by
  obtain ⟨hap, hbp⟩ := re_iff.1 hg
  have hg0 := (pat_iff.1 hap).1
  have sga := sign_01 hap
  obtain ⟨ua1, ua2, ua3, ua4, ua5⟩ := un_small hap
  obtain ⟨ub1, ub2, ub3, ub4, ub5⟩ := un_small hbp
  have u1 := un_bd (pat_iff.1 hap).1
  have xa : (unV e f) ≤ (shE (unitsV e f a) (unV e f)) ∧ (shE (unitsV e f a) (unV e f)) ≤ 41 ∧ (shE (unitsV e f a) (unV e f)) - (unV e f) ≤ 42 := by
    by_cases h : (unitsV e f a) = 0
    · have := ua5 h; omega
    · have := ua4 h; omega
  have oa := op_fin (e := e) (f := f) (p := a) fa
  have ob := op_inf (e := e) (f := f) (p := b) fb nb
  have OC := Lib.hid (fun (w : World) (hT : TW w) => ofTwoRest_fin e f a b 0 (a / pw (e + f)) ((odV (unitsV e f a)).natAbs : Int) (shE (unitsV e f a) (unV e f)) hap hbp (by omega) (by omega) sga (by omega) (by omega) (by omega) (by omega) (fun w => by rw [oa, ob]; exact rest_fi (a / pw (e + f)) ((odV (unitsV e f a)).natAbs : Int) (shE (unitsV e f a) (unV e f)) (b / pw (e + f)) w) w hT)
  clear oa ob ua1 ua2 ua3 ua4 ua5 ub1 ub2 ub3 ub4 ub5 u1 xa
  go_enter Tryz.func41, Tryz.ntmps41
  go_wp2_with (go_at_call 64; refine (OC.out _ (hT.ext Ext.auK)).mono ?_; rintro rv w1 ⟨s, rfl, hq, hb⟩; obtain rfl := rnd_one (good_iff.1 hg0).2.2.1 (show (0 : Int) < pw 149 by have := pw_pos 149; omega) hq (rnd_self fa); clear hq; have ns : w.heap.size < w1.heap.size := hb.ltK; have n0 : w1.cell? ⟨w.heap.size, 0, none⟩ = some (.int .i64 e) := hb.cellK; have n1 : w1.cell? ⟨w.heap.size, 1, none⟩ = some (.int .i64 f) := hb.cellK; (first | (have nx := Ext.trans hx hb; clear hx) | (have nx := Ext.trans (hx.alloc _) hb; clear hx) | (have nx := Ext.trans hx.drew hb; clear hx) | have nx := hb); clear hb; try clear hs; try clear g0; try clear g1; have hx := nx; clear nx; have hs := ns; clear ns; have g0 := n0; clear n0; have g1 := n1; clear n1)
  go_ret2
  exact ⟨_, rfl, Or.inr (Or.inl ⟨by unfold rqP; omega, kb, self_form hap⟩), Ext.auK⟩

theorem iRemainderOf_vz (e f a b : Int) (hg : reB e f a b = true) (ka : kindV e f a < 3) (fa : finB e f a = true) (kb : kindV e f b = 0) (fb : finB e f b = true) (nb : unitsV e f b = 0) (w : World) (hT : TW w) : Calls Tryz.prog 41 #[fmt e f, .int .i64 a, .int .i64 b] w (ARboth (ReD e f a b) w) := by
  obtain ⟨hap, hbp⟩ := re_iff.1 hg
  have hg0 := (pat_iff.1 hap).1
  have sga := sign_01 hap
  obtain ⟨ua1, ua2, ua3, ua4, ua5⟩ := un_small hap
  obtain ⟨ub1, ub2, ub3, ub4, ub5⟩ := un_small hbp
  have u1 := un_bd (pat_iff.1 hap).1
  have xa : (unV e f) ≤ (shE (unitsV e f a) (unV e f)) ∧ (shE (unitsV e f a) (unV e f)) ≤ 41 ∧ (shE (unitsV e f a) (unV e f)) - (unV e f) ≤ 42 := by
    by_cases h : (unitsV e f a) = 0
    · have := ua5 h; omega
    · have := ua4 h; omega
  have oa := op_fin (e := e) (f := f) (p := a) fa
  have ob := op_fin (e := e) (f := f) (p := b) fb
  have OC := Lib.hid (fun (w : World) (hT : TW w) => ofTwoRest_no e f a b 0 hap hbp (by omega) (by omega) (fun w => by rw [oa, ob]; exact rest_ff (a / pw (e + f)) ((odV (unitsV e f a)).natAbs : Int) (shE (unitsV e f a) (unV e f)) (b / pw (e + f)) ((odV (unitsV e f b)).natAbs : Int) (shE (unitsV e f b) (unV e f)) _ (fun w => frest_zero (a / pw (e + f)) ((odV (unitsV e f a)).natAbs : Int) (shE (unitsV e f a) (unV e f)) (b / pw (e + f)) ((odV (unitsV e f b)).natAbs : Int) (shE (unitsV e f b) (unV e f)) (by rw [nb, od_zero]; rfl) w) w) w hT)
  clear oa ob ua1 ua2 ua3 ua4 ua5 ub1 ub2 ub3 ub4 ub5 u1 xa
  go_enter Tryz.func41, Tryz.ntmps41
  go_wp2_with (go_at_call 64; refine (OC.out _ (hT.ext Ext.auK)).mono ?_; rintro rv w1 ⟨rfl, hb⟩; have ns : w.heap.size < w1.heap.size := hb.ltK; have n0 : w1.cell? ⟨w.heap.size, 0, none⟩ = some (.int .i64 e) := hb.cellK; have n1 : w1.cell? ⟨w.heap.size, 1, none⟩ = some (.int .i64 f) := hb.cellK; (first | (have nx := Ext.trans hx hb; clear hx) | (have nx := Ext.trans (hx.alloc _) hb; clear hx) | (have nx := Ext.trans hx.drew hb; clear hx) | have nx := hb); clear hb; try clear hs; try clear g0; try clear g1; have hx := nx; clear nx; have hs := ns; clear ns; have g0 := n0; clear n0; have g1 := n1; clear n1)
  go_ret2
  exact ⟨_, rfl, Or.inl ⟨by unfold rqP; omega, rfl⟩, Ext.auK⟩

set_option maxHeartbeats 1600000 in
theorem iRemainderOf_vf0n (e f a b : Int) (hg : reB e f a b = true) (ka : kindV e f a < 3) (fa : finB e f a = true) (kb : kindV e f b = 1 ∨ kindV e f b = 2) (fb : finB e f b = true) (nb : unitsV e f b ≠ 0) (R : Int) (hs : (a / pw (e + f)) = 0) (hL : (((odV (unitsV e f a)).natAbs : Int) * pw ((shE (unitsV e f a) (unV e f)) - (min (shE (unitsV e f a) (unV e f)) (shE (unitsV e f b) (unV e f))))) - (((odV (unitsV e f b)).natAbs : Int) * pw ((shE (unitsV e f b) (unV e f)) - (min (shE (unitsV e f a) (unV e f)) (shE (unitsV e f b) (unV e f))))) * (whV (((odV (unitsV e f a)).natAbs : Int) * pw ((shE (unitsV e f a) (unV e f)) - (min (shE (unitsV e f a) (unV e f)) (shE (unitsV e f b) (unV e f))))) (((odV (unitsV e f b)).natAbs : Int) * pw ((shE (unitsV e f b) (unV e f)) - (min (shE (unitsV e f a) (unV e f)) (shE (unitsV e f b) (unV e f))))) 0 false) = R) (hR : R < 0) (w : World) (hT : TW w) : Calls Tryz.prog 41 #[fmt e f, .int .i64 a, .int .i64 b] w (ARboth (ReD e f a b) w) := by
  obtain ⟨hap, hbp⟩ := re_iff.1 hg
  have hg0 := (pat_iff.1 hap).1
  have sga := sign_01 hap
  obtain ⟨ua1, ua2, ua3, ua4, ua5⟩ := un_small hap
  obtain ⟨ub1, ub2, ub3, ub4, ub5⟩ := un_small hbp
  have u1 := un_bd (pat_iff.1 hap).1
  have xa : (unV e f) ≤ (shE (unitsV e f a) (unV e f)) ∧ (shE (unitsV e f a) (unV e f)) ≤ 41 ∧ (shE (unitsV e f a) (unV e f)) - (unV e f) ≤ 42 := by
    by_cases h : (unitsV e f a) = 0
    · have := ua5 h; omega
    · have := ua4 h; omega
  have kb3 : kindV e f b ≠ 3 := by omega
  have oa := op_fin (e := e) (f := f) (p := a) fa
  have ob := op_fin (e := e) (f := f) (p := b) fb
  rw [hs] at oa
  have eb := ub4 nb
  have nz : 0 < ((odV (unitsV e f b)).natAbs : Int) := by
    rcases Int.lt_or_eq_of_le (show 0 ≤ ((odV (unitsV e f b)).natAbs : Int) by omega) with h | h
    · exact h
    · exact absurd ((od_sign (S := (unitsV e f b)) (by have := units_bd e f b hbp; omega) (by have := units_bd e f b hbp; omega)).2.1 (by omega)) nb
  have hmn : (unV e f) ≤ (min (shE (unitsV e f a) (unV e f)) (shE (unitsV e f b) (unV e f))) := by omega
  have RU := re_units hap hbp nb hmn
  have da : 0 ≤ (shE (unitsV e f a) (unV e f)) - (min (shE (unitsV e f a) (unV e f)) (shE (unitsV e f b) (unV e f))) ∧ (shE (unitsV e f a) (unV e f)) - (min (shE (unitsV e f a) (unV e f)) (shE (unitsV e f b) (unV e f))) ≤ 66 := by omega
  have d1 : 0 ≤ (shE (unitsV e f a) (unV e f)) - (min (shE (unitsV e f a) (unV e f)) (shE (unitsV e f b) (unV e f))) ∧ (shE (unitsV e f a) (unV e f)) - (min (shE (unitsV e f a) (unV e f)) (shE (unitsV e f b) (unV e f))) ≤ 42 := by omega
  have d2 : 0 ≤ (shE (unitsV e f b) (unV e f)) - (min (shE (unitsV e f a) (unV e f)) (shE (unitsV e f b) (unV e f))) ∧ (shE (unitsV e f b) (unV e f)) - (min (shE (unitsV e f a) (unV e f)) (shE (unitsV e f b) (unV e f))) ≤ 42 := by omega
  have p1 := pw_pos ((shE (unitsV e f a) (unV e f)) - (min (shE (unitsV e f a) (unV e f)) (shE (unitsV e f b) (unV e f))))
  have p2 : pw ((shE (unitsV e f a) (unV e f)) - (min (shE (unitsV e f a) (unV e f)) (shE (unitsV e f b) (unV e f)))) ≤ 4398046511104 := pw_le 42 4398046511104 rfl (by omega)
  have p3 := pw_pos ((shE (unitsV e f b) (unV e f)) - (min (shE (unitsV e f a) (unV e f)) (shE (unitsV e f b) (unV e f))))
  have p4 : pw ((shE (unitsV e f b) (unV e f)) - (min (shE (unitsV e f a) (unV e f)) (shE (unitsV e f b) (unV e f)))) ≤ 4398046511104 := pw_le 42 4398046511104 rfl (by omega)
  have A0 : 0 ≤ (((odV (unitsV e f a)).natAbs : Int) * pw ((shE (unitsV e f a) (unV e f)) - (min (shE (unitsV e f a) (unV e f)) (shE (unitsV e f b) (unV e f))))) := Int.mul_nonneg (by omega) (by omega)
  have A1 : (((odV (unitsV e f a)).natAbs : Int) * pw ((shE (unitsV e f a) (unV e f)) - (min (shE (unitsV e f a) (unV e f)) (shE (unitsV e f b) (unV e f))))) ≤ 2048 * 4398046511104 := Int.mul_le_mul (by omega) p2 (by omega) (by omega)
  have B0 : 0 < (((odV (unitsV e f b)).natAbs : Int) * pw ((shE (unitsV e f b) (unV e f)) - (min (shE (unitsV e f a) (unV e f)) (shE (unitsV e f b) (unV e f))))) := Int.mul_pos nz (by omega)
  have B1 : (((odV (unitsV e f b)).natAbs : Int) * pw ((shE (unitsV e f b) (unV e f)) - (min (shE (unitsV e f a) (unV e f)) (shE (unitsV e f b) (unV e f))))) ≤ 2048 * 4398046511104 := Int.mul_le_mul (by omega) p4 (by omega) (by omega)
  have few : (((odV (unitsV e f a)).natAbs : Int) * pw ((shE (unitsV e f a) (unV e f)) - (min (shE (unitsV e f a) (unV e f)) (shE (unitsV e f b) (unV e f))))) % (((odV (unitsV e f b)).natAbs : Int) * pw ((shE (unitsV e f b) (unV e f)) - (min (shE (unitsV e f a) (unV e f)) (shE (unitsV e f b) (unV e f))))) < 16777216 := by
    have r1 := Int.emod_lt_of_pos (((odV (unitsV e f a)).natAbs : Int) * pw ((shE (unitsV e f a) (unV e f)) - (min (shE (unitsV e f a) (unV e f)) (shE (unitsV e f b) (unV e f))))) B0
    have r2 := Int.mul_ediv_add_emod (((odV (unitsV e f a)).natAbs : Int) * pw ((shE (unitsV e f a) (unV e f)) - (min (shE (unitsV e f a) (unV e f)) (shE (unitsV e f b) (unV e f))))) (((odV (unitsV e f b)).natAbs : Int) * pw ((shE (unitsV e f b) (unV e f)) - (min (shE (unitsV e f a) (unV e f)) (shE (unitsV e f b) (unV e f)))))
    have r3 : 0 ≤ (((odV (unitsV e f a)).natAbs : Int) * pw ((shE (unitsV e f a) (unV e f)) - (min (shE (unitsV e f a) (unV e f)) (shE (unitsV e f b) (unV e f))))) / (((odV (unitsV e f b)).natAbs : Int) * pw ((shE (unitsV e f b) (unV e f)) - (min (shE (unitsV e f a) (unV e f)) (shE (unitsV e f b) (unV e f))))) := Int.ediv_nonneg A0 (by omega)
    have r4 : 0 ≤ (((odV (unitsV e f b)).natAbs : Int) * pw ((shE (unitsV e f b) (unV e f)) - (min (shE (unitsV e f a) (unV e f)) (shE (unitsV e f b) (unV e f))))) * ((((odV (unitsV e f a)).natAbs : Int) * pw ((shE (unitsV e f a) (unV e f)) - (min (shE (unitsV e f a) (unV e f)) (shE (unitsV e f b) (unV e f))))) / (((odV (unitsV e f b)).natAbs : Int) * pw ((shE (unitsV e f b) (unV e f)) - (min (shE (unitsV e f a) (unV e f)) (shE (unitsV e f b) (unV e f)))))) := Int.mul_nonneg (by omega) r3
    by_cases h : (shE (unitsV e f b) (unV e f)) ≤ (shE (unitsV e f a) (unV e f))
    · have e0 : (((odV (unitsV e f b)).natAbs : Int) * pw ((shE (unitsV e f b) (unV e f)) - (min (shE (unitsV e f a) (unV e f)) (shE (unitsV e f b) (unV e f))))) = ((odV (unitsV e f b)).natAbs : Int) := by rw [show (shE (unitsV e f b) (unV e f)) - (min (shE (unitsV e f a) (unV e f)) (shE (unitsV e f b) (unV e f))) = 0 by omega, show pw 0 = 1 from rfl, Int.mul_one]
      omega
    · have e0 : (((odV (unitsV e f a)).natAbs : Int) * pw ((shE (unitsV e f a) (unV e f)) - (min (shE (unitsV e f a) (unV e f)) (shE (unitsV e f b) (unV e f))))) = ((odV (unitsV e f a)).natAbs : Int) := by rw [show (shE (unitsV e f a) (unV e f)) - (min (shE (unitsV e f a) (unV e f)) (shE (unitsV e f b) (unV e f))) = 0 by omega, show pw 0 = 1 from rfl, Int.mul_one]
      omega
  have r0 := Int.emod_nonneg (((odV (unitsV e f a)).natAbs : Int) * pw ((shE (unitsV e f a) (unV e f)) - (min (shE (unitsV e f a) (unV e f)) (shE (unitsV e f b) (unV e f))))) (show (((odV (unitsV e f b)).natAbs : Int) * pw ((shE (unitsV e f b) (unV e f)) - (min (shE (unitsV e f a) (unV e f)) (shE (unitsV e f b) (unV e f))))) ≠ 0 by omega)
  obtain ⟨l1, l2⟩ := wh_near (N := (((odV (unitsV e f a)).natAbs : Int) * pw ((shE (unitsV e f a) (unV e f)) - (min (shE (unitsV e f a) (unV e f)) (shE (unitsV e f b) (unV e f)))))) (v := (((odV (unitsV e f b)).natAbs : Int) * pw ((shE (unitsV e f b) (unV e f)) - (min (shE (unitsV e f a) (unV e f)) (shE (unitsV e f b) (unV e f)))))) A0 B0
  have TG := Lib.hid (fun w => together_any 0 ((odV (unitsV e f a)).natAbs : Int) (shE (unitsV e f a) (unV e f)) (b / pw (e + f)) ((odV (unitsV e f b)).natAbs : Int) (shE (unitsV e f b) (unV e f)) _ _ rfl rfl (by omega) (by omega) (by omega) (by omega) (IntWalk.i64_in _ (by omega)) (IntWalk.i64_in _ (by omega)) w)
  have WQc := Lib.hid (fun w => wholeQuotient_any (((odV (unitsV e f a)).natAbs : Int) * pw ((shE (unitsV e f a) (unV e f)) - (min (shE (unitsV e f a) (unV e f)) (shE (unitsV e f b) (unV e f))))) (((odV (unitsV e f b)).natAbs : Int) * pw ((shE (unitsV e f b) (unV e f)) - (min (shE (unitsV e f a) (unV e f)) (shE (unitsV e f b) (unV e f))))) 0 false A0 (by omega) B0 (by omega) (by omega) (by omega) (ok_few r0 few) (lt_few r0 few) (ok_npw (by omega) (by omega) (by omega) (by omega)) w)
  have kB : IntKind.i64.wrap ((((odV (unitsV e f b)).natAbs : Int) * pw ((shE (unitsV e f b) (unV e f)) - (min (shE (unitsV e f a) (unV e f)) (shE (unitsV e f b) (unV e f))))) * (whV (((odV (unitsV e f a)).natAbs : Int) * pw ((shE (unitsV e f a) (unV e f)) - (min (shE (unitsV e f a) (unV e f)) (shE (unitsV e f b) (unV e f))))) (((odV (unitsV e f b)).natAbs : Int) * pw ((shE (unitsV e f b) (unV e f)) - (min (shE (unitsV e f a) (unV e f)) (shE (unitsV e f b) (unV e f))))) 0 false)) = (((odV (unitsV e f b)).natAbs : Int) * pw ((shE (unitsV e f b) (unV e f)) - (min (shE (unitsV e f a) (unV e f)) (shE (unitsV e f b) (unV e f))))) * (whV (((odV (unitsV e f a)).natAbs : Int) * pw ((shE (unitsV e f a) (unV e f)) - (min (shE (unitsV e f a) (unV e f)) (shE (unitsV e f b) (unV e f))))) (((odV (unitsV e f b)).natAbs : Int) * pw ((shE (unitsV e f b) (unV e f)) - (min (shE (unitsV e f a) (unV e f)) (shE (unitsV e f b) (unV e f))))) 0 false) := IntWalk.i64_in _ (by omega)
  have kL : IntKind.i64.wrap ((((odV (unitsV e f a)).natAbs : Int) * pw ((shE (unitsV e f a) (unV e f)) - (min (shE (unitsV e f a) (unV e f)) (shE (unitsV e f b) (unV e f))))) - (((odV (unitsV e f b)).natAbs : Int) * pw ((shE (unitsV e f b) (unV e f)) - (min (shE (unitsV e f a) (unV e f)) (shE (unitsV e f b) (unV e f))))) * (whV (((odV (unitsV e f a)).natAbs : Int) * pw ((shE (unitsV e f a) (unV e f)) - (min (shE (unitsV e f a) (unV e f)) (shE (unitsV e f b) (unV e f))))) (((odV (unitsV e f b)).natAbs : Int) * pw ((shE (unitsV e f b) (unV e f)) - (min (shE (unitsV e f a) (unV e f)) (shE (unitsV e f b) (unV e f))))) 0 false)) = (((odV (unitsV e f a)).natAbs : Int) * pw ((shE (unitsV e f a) (unV e f)) - (min (shE (unitsV e f a) (unV e f)) (shE (unitsV e f b) (unV e f))))) - (((odV (unitsV e f b)).natAbs : Int) * pw ((shE (unitsV e f b) (unV e f)) - (min (shE (unitsV e f a) (unV e f)) (shE (unitsV e f b) (unV e f))))) * (whV (((odV (unitsV e f a)).natAbs : Int) * pw ((shE (unitsV e f a) (unV e f)) - (min (shE (unitsV e f a) (unV e f)) (shE (unitsV e f b) (unV e f))))) (((odV (unitsV e f b)).natAbs : Int) * pw ((shE (unitsV e f b) (unV e f)) - (min (shE (unitsV e f a) (unV e f)) (shE (unitsV e f b) (unV e f))))) 0 false) := IntWalk.i64_in _ (by omega)
  have kR : (((odV (unitsV e f a)).natAbs : Int) * pw ((shE (unitsV e f a) (unV e f)) - (min (shE (unitsV e f a) (unV e f)) (shE (unitsV e f b) (unV e f))))) - (((odV (unitsV e f b)).natAbs : Int) * pw ((shE (unitsV e f b) (unV e f)) - (min (shE (unitsV e f a) (unV e f)) (shE (unitsV e f b) (unV e f))))) * (whV (((odV (unitsV e f a)).natAbs : Int) * pw ((shE (unitsV e f a) (unV e f)) - (min (shE (unitsV e f a) (unV e f)) (shE (unitsV e f b) (unV e f))))) (((odV (unitsV e f b)).natAbs : Int) * pw ((shE (unitsV e f b) (unV e f)) - (min (shE (unitsV e f a) (unV e f)) (shE (unitsV e f b) (unV e f))))) 0 false) = R := hL
  rw [if_neg (by omega), hL] at RU
  have FOc := Lib.hid (fun w => finiteOf_n R (min (shE (unitsV e f a) (unV e f)) (shE (unitsV e f b) (unV e f))) 0 hR (IntWalk.i64_in _ (by omega)) w)
  have sg2 : (1 : Int) = 0 ∨ (1 : Int) = 1 := by omega
  have OC := Lib.hid (fun (w : World) (hT : TW w) => ofTwoRest_fin e f a b 0 1 (-R) (min (shE (unitsV e f a) (unV e f)) (shE (unitsV e f b) (unV e f))) hap hbp (by omega) (by omega) sg2 (by omega) (by omega) (by omega) (by omega) (fun w => by rw [oa, ob]; exact rest_ff 0 ((odV (unitsV e f a)).natAbs : Int) (shE (unitsV e f a) (unV e f)) (b / pw (e + f)) ((odV (unitsV e f b)).natAbs : Int) (shE (unitsV e f b) (unV e f)) _ (fun w => frest_0 ((odV (unitsV e f a)).natAbs : Int) (shE (unitsV e f a) (unV e f)) (b / pw (e + f)) ((odV (unitsV e f b)).natAbs : Int) (shE (unitsV e f b) (unV e f)) (((odV (unitsV e f a)).natAbs : Int) * pw ((shE (unitsV e f a) (unV e f)) - (min (shE (unitsV e f a) (unV e f)) (shE (unitsV e f b) (unV e f))))) (((odV (unitsV e f b)).natAbs : Int) * pw ((shE (unitsV e f b) (unV e f)) - (min (shE (unitsV e f a) (unV e f)) (shE (unitsV e f b) (unV e f))))) (min (shE (unitsV e f a) (unV e f)) (shE (unitsV e f b) (unV e f))) (whV (((odV (unitsV e f a)).natAbs : Int) * pw ((shE (unitsV e f a) (unV e f)) - (min (shE (unitsV e f a) (unV e f)) (shE (unitsV e f b) (unV e f))))) (((odV (unitsV e f b)).natAbs : Int) * pw ((shE (unitsV e f b) (unV e f)) - (min (shE (unitsV e f a) (unV e f)) (shE (unitsV e f b) (unV e f))))) 0 false) ((((odV (unitsV e f a)).natAbs : Int) * pw ((shE (unitsV e f a) (unV e f)) - (min (shE (unitsV e f a) (unV e f)) (shE (unitsV e f b) (unV e f))))) - (((odV (unitsV e f b)).natAbs : Int) * pw ((shE (unitsV e f b) (unV e f)) - (min (shE (unitsV e f a) (unV e f)) (shE (unitsV e f b) (unV e f))))) * (whV (((odV (unitsV e f a)).natAbs : Int) * pw ((shE (unitsV e f a) (unV e f)) - (min (shE (unitsV e f a) (unV e f)) (shE (unitsV e f b) (unV e f))))) (((odV (unitsV e f b)).natAbs : Int) * pw ((shE (unitsV e f b) (unV e f)) - (min (shE (unitsV e f a) (unV e f)) (shE (unitsV e f b) (unV e f))))) 0 false)) R 1 (-R) (min (shE (unitsV e f a) (unV e f)) (shE (unitsV e f b) (unV e f))) (by omega) TG WQc kB kL kR FOc w) w) w hT)
  have RU := Lib.hid RU
  clear oa ob eb nz da d1 d2 p1 p2 p3 p4 A0 A1 B0 B1 few r0 l1 l2 TG WQc kB kL kR FOc sg2 hL ua1 ua2 ua3 ua4 ua5 ub1 ub2 ub3 ub4 ub5 u1 xa
  have HS := Lib.hid hs
  clear hs
  go_enter Tryz.func41, Tryz.ntmps41
  go_wp2_with (go_at_call 64; refine (OC.out _ (hT.ext Ext.auK)).mono ?_; rintro rv w1 ⟨s, rfl, hq, hb⟩; have HQ := Lib.hid hq; clear hq; have ns : w.heap.size < w1.heap.size := hb.ltK; have n0 : w1.cell? ⟨w.heap.size, 0, none⟩ = some (.int .i64 e) := hb.cellK; have n1 : w1.cell? ⟨w.heap.size, 1, none⟩ = some (.int .i64 f) := hb.cellK; (first | (have nx := Ext.trans hx hb; clear hx) | (have nx := Ext.trans (hx.alloc _) hb; clear hx) | (have nx := Ext.trans hx.drew hb; clear hx) | have nx := hb); clear hb; try clear hs; try clear g0; try clear g1; have hx := nx; clear nx; have hs := ns; clear ns; have g0 := n0; clear n0; have g1 := n1; clear n1)
  have hs := HS.out
  go_ret2
  exact ⟨_, rfl, Or.inr (Or.inr (Or.inr ⟨by unfold rqP; omega, kb3, by have := (re_neg (by omega) hR RU.out HQ.out).1; omega, s, by rw [← (re_neg (by omega) hR RU.out HQ.out).2.1]; first | rfl | omega, (re_neg (by omega) hR RU.out HQ.out).2.2⟩)), Ext.auK⟩

set_option maxHeartbeats 1600000 in
theorem iRemainderOf_vf0z (e f a b : Int) (hg : reB e f a b = true) (ka : kindV e f a < 3) (fa : finB e f a = true) (kb : kindV e f b = 1 ∨ kindV e f b = 2) (fb : finB e f b = true) (nb : unitsV e f b ≠ 0) (R : Int) (hs : (a / pw (e + f)) = 0) (hL : (((odV (unitsV e f a)).natAbs : Int) * pw ((shE (unitsV e f a) (unV e f)) - (min (shE (unitsV e f a) (unV e f)) (shE (unitsV e f b) (unV e f))))) - (((odV (unitsV e f b)).natAbs : Int) * pw ((shE (unitsV e f b) (unV e f)) - (min (shE (unitsV e f a) (unV e f)) (shE (unitsV e f b) (unV e f))))) * (whV (((odV (unitsV e f a)).natAbs : Int) * pw ((shE (unitsV e f a) (unV e f)) - (min (shE (unitsV e f a) (unV e f)) (shE (unitsV e f b) (unV e f))))) (((odV (unitsV e f b)).natAbs : Int) * pw ((shE (unitsV e f b) (unV e f)) - (min (shE (unitsV e f a) (unV e f)) (shE (unitsV e f b) (unV e f))))) 0 false) = R) (hR : R = 0) (w : World) (hT : TW w) : Calls Tryz.prog 41 #[fmt e f, .int .i64 a, .int .i64 b] w (ARboth (ReD e f a b) w) := by
  obtain ⟨hap, hbp⟩ := re_iff.1 hg
  have hg0 := (pat_iff.1 hap).1
  have sga := sign_01 hap
  obtain ⟨ua1, ua2, ua3, ua4, ua5⟩ := un_small hap
  obtain ⟨ub1, ub2, ub3, ub4, ub5⟩ := un_small hbp
  have u1 := un_bd (pat_iff.1 hap).1
  have xa : (unV e f) ≤ (shE (unitsV e f a) (unV e f)) ∧ (shE (unitsV e f a) (unV e f)) ≤ 41 ∧ (shE (unitsV e f a) (unV e f)) - (unV e f) ≤ 42 := by
    by_cases h : (unitsV e f a) = 0
    · have := ua5 h; omega
    · have := ua4 h; omega
  have kb3 : kindV e f b ≠ 3 := by omega
  have oa := op_fin (e := e) (f := f) (p := a) fa
  have ob := op_fin (e := e) (f := f) (p := b) fb
  rw [hs] at oa
  have eb := ub4 nb
  have nz : 0 < ((odV (unitsV e f b)).natAbs : Int) := by
    rcases Int.lt_or_eq_of_le (show 0 ≤ ((odV (unitsV e f b)).natAbs : Int) by omega) with h | h
    · exact h
    · exact absurd ((od_sign (S := (unitsV e f b)) (by have := units_bd e f b hbp; omega) (by have := units_bd e f b hbp; omega)).2.1 (by omega)) nb
  have hmn : (unV e f) ≤ (min (shE (unitsV e f a) (unV e f)) (shE (unitsV e f b) (unV e f))) := by omega
  have RU := re_units hap hbp nb hmn
  have da : 0 ≤ (shE (unitsV e f a) (unV e f)) - (min (shE (unitsV e f a) (unV e f)) (shE (unitsV e f b) (unV e f))) ∧ (shE (unitsV e f a) (unV e f)) - (min (shE (unitsV e f a) (unV e f)) (shE (unitsV e f b) (unV e f))) ≤ 66 := by omega
  have d1 : 0 ≤ (shE (unitsV e f a) (unV e f)) - (min (shE (unitsV e f a) (unV e f)) (shE (unitsV e f b) (unV e f))) ∧ (shE (unitsV e f a) (unV e f)) - (min (shE (unitsV e f a) (unV e f)) (shE (unitsV e f b) (unV e f))) ≤ 42 := by omega
  have d2 : 0 ≤ (shE (unitsV e f b) (unV e f)) - (min (shE (unitsV e f a) (unV e f)) (shE (unitsV e f b) (unV e f))) ∧ (shE (unitsV e f b) (unV e f)) - (min (shE (unitsV e f a) (unV e f)) (shE (unitsV e f b) (unV e f))) ≤ 42 := by omega
  have p1 := pw_pos ((shE (unitsV e f a) (unV e f)) - (min (shE (unitsV e f a) (unV e f)) (shE (unitsV e f b) (unV e f))))
  have p2 : pw ((shE (unitsV e f a) (unV e f)) - (min (shE (unitsV e f a) (unV e f)) (shE (unitsV e f b) (unV e f)))) ≤ 4398046511104 := pw_le 42 4398046511104 rfl (by omega)
  have p3 := pw_pos ((shE (unitsV e f b) (unV e f)) - (min (shE (unitsV e f a) (unV e f)) (shE (unitsV e f b) (unV e f))))
  have p4 : pw ((shE (unitsV e f b) (unV e f)) - (min (shE (unitsV e f a) (unV e f)) (shE (unitsV e f b) (unV e f)))) ≤ 4398046511104 := pw_le 42 4398046511104 rfl (by omega)
  have A0 : 0 ≤ (((odV (unitsV e f a)).natAbs : Int) * pw ((shE (unitsV e f a) (unV e f)) - (min (shE (unitsV e f a) (unV e f)) (shE (unitsV e f b) (unV e f))))) := Int.mul_nonneg (by omega) (by omega)
  have A1 : (((odV (unitsV e f a)).natAbs : Int) * pw ((shE (unitsV e f a) (unV e f)) - (min (shE (unitsV e f a) (unV e f)) (shE (unitsV e f b) (unV e f))))) ≤ 2048 * 4398046511104 := Int.mul_le_mul (by omega) p2 (by omega) (by omega)
  have B0 : 0 < (((odV (unitsV e f b)).natAbs : Int) * pw ((shE (unitsV e f b) (unV e f)) - (min (shE (unitsV e f a) (unV e f)) (shE (unitsV e f b) (unV e f))))) := Int.mul_pos nz (by omega)
  have B1 : (((odV (unitsV e f b)).natAbs : Int) * pw ((shE (unitsV e f b) (unV e f)) - (min (shE (unitsV e f a) (unV e f)) (shE (unitsV e f b) (unV e f))))) ≤ 2048 * 4398046511104 := Int.mul_le_mul (by omega) p4 (by omega) (by omega)
  have few : (((odV (unitsV e f a)).natAbs : Int) * pw ((shE (unitsV e f a) (unV e f)) - (min (shE (unitsV e f a) (unV e f)) (shE (unitsV e f b) (unV e f))))) % (((odV (unitsV e f b)).natAbs : Int) * pw ((shE (unitsV e f b) (unV e f)) - (min (shE (unitsV e f a) (unV e f)) (shE (unitsV e f b) (unV e f))))) < 16777216 := by
    have r1 := Int.emod_lt_of_pos (((odV (unitsV e f a)).natAbs : Int) * pw ((shE (unitsV e f a) (unV e f)) - (min (shE (unitsV e f a) (unV e f)) (shE (unitsV e f b) (unV e f))))) B0
    have r2 := Int.mul_ediv_add_emod (((odV (unitsV e f a)).natAbs : Int) * pw ((shE (unitsV e f a) (unV e f)) - (min (shE (unitsV e f a) (unV e f)) (shE (unitsV e f b) (unV e f))))) (((odV (unitsV e f b)).natAbs : Int) * pw ((shE (unitsV e f b) (unV e f)) - (min (shE (unitsV e f a) (unV e f)) (shE (unitsV e f b) (unV e f)))))
    have r3 : 0 ≤ (((odV (unitsV e f a)).natAbs : Int) * pw ((shE (unitsV e f a) (unV e f)) - (min (shE (unitsV e f a) (unV e f)) (shE (unitsV e f b) (unV e f))))) / (((odV (unitsV e f b)).natAbs : Int) * pw ((shE (unitsV e f b) (unV e f)) - (min (shE (unitsV e f a) (unV e f)) (shE (unitsV e f b) (unV e f))))) := Int.ediv_nonneg A0 (by omega)
    have r4 : 0 ≤ (((odV (unitsV e f b)).natAbs : Int) * pw ((shE (unitsV e f b) (unV e f)) - (min (shE (unitsV e f a) (unV e f)) (shE (unitsV e f b) (unV e f))))) * ((((odV (unitsV e f a)).natAbs : Int) * pw ((shE (unitsV e f a) (unV e f)) - (min (shE (unitsV e f a) (unV e f)) (shE (unitsV e f b) (unV e f))))) / (((odV (unitsV e f b)).natAbs : Int) * pw ((shE (unitsV e f b) (unV e f)) - (min (shE (unitsV e f a) (unV e f)) (shE (unitsV e f b) (unV e f)))))) := Int.mul_nonneg (by omega) r3
    by_cases h : (shE (unitsV e f b) (unV e f)) ≤ (shE (unitsV e f a) (unV e f))
    · have e0 : (((odV (unitsV e f b)).natAbs : Int) * pw ((shE (unitsV e f b) (unV e f)) - (min (shE (unitsV e f a) (unV e f)) (shE (unitsV e f b) (unV e f))))) = ((odV (unitsV e f b)).natAbs : Int) := by rw [show (shE (unitsV e f b) (unV e f)) - (min (shE (unitsV e f a) (unV e f)) (shE (unitsV e f b) (unV e f))) = 0 by omega, show pw 0 = 1 from rfl, Int.mul_one]
      omega
    · have e0 : (((odV (unitsV e f a)).natAbs : Int) * pw ((shE (unitsV e f a) (unV e f)) - (min (shE (unitsV e f a) (unV e f)) (shE (unitsV e f b) (unV e f))))) = ((odV (unitsV e f a)).natAbs : Int) := by rw [show (shE (unitsV e f a) (unV e f)) - (min (shE (unitsV e f a) (unV e f)) (shE (unitsV e f b) (unV e f))) = 0 by omega, show pw 0 = 1 from rfl, Int.mul_one]
      omega
  have r0 := Int.emod_nonneg (((odV (unitsV e f a)).natAbs : Int) * pw ((shE (unitsV e f a) (unV e f)) - (min (shE (unitsV e f a) (unV e f)) (shE (unitsV e f b) (unV e f))))) (show (((odV (unitsV e f b)).natAbs : Int) * pw ((shE (unitsV e f b) (unV e f)) - (min (shE (unitsV e f a) (unV e f)) (shE (unitsV e f b) (unV e f))))) ≠ 0 by omega)
  obtain ⟨l1, l2⟩ := wh_near (N := (((odV (unitsV e f a)).natAbs : Int) * pw ((shE (unitsV e f a) (unV e f)) - (min (shE (unitsV e f a) (unV e f)) (shE (unitsV e f b) (unV e f)))))) (v := (((odV (unitsV e f b)).natAbs : Int) * pw ((shE (unitsV e f b) (unV e f)) - (min (shE (unitsV e f a) (unV e f)) (shE (unitsV e f b) (unV e f)))))) A0 B0
  have TG := Lib.hid (fun w => together_any 0 ((odV (unitsV e f a)).natAbs : Int) (shE (unitsV e f a) (unV e f)) (b / pw (e + f)) ((odV (unitsV e f b)).natAbs : Int) (shE (unitsV e f b) (unV e f)) _ _ rfl rfl (by omega) (by omega) (by omega) (by omega) (IntWalk.i64_in _ (by omega)) (IntWalk.i64_in _ (by omega)) w)
  have WQc := Lib.hid (fun w => wholeQuotient_any (((odV (unitsV e f a)).natAbs : Int) * pw ((shE (unitsV e f a) (unV e f)) - (min (shE (unitsV e f a) (unV e f)) (shE (unitsV e f b) (unV e f))))) (((odV (unitsV e f b)).natAbs : Int) * pw ((shE (unitsV e f b) (unV e f)) - (min (shE (unitsV e f a) (unV e f)) (shE (unitsV e f b) (unV e f))))) 0 false A0 (by omega) B0 (by omega) (by omega) (by omega) (ok_few r0 few) (lt_few r0 few) (ok_npw (by omega) (by omega) (by omega) (by omega)) w)
  have kB : IntKind.i64.wrap ((((odV (unitsV e f b)).natAbs : Int) * pw ((shE (unitsV e f b) (unV e f)) - (min (shE (unitsV e f a) (unV e f)) (shE (unitsV e f b) (unV e f))))) * (whV (((odV (unitsV e f a)).natAbs : Int) * pw ((shE (unitsV e f a) (unV e f)) - (min (shE (unitsV e f a) (unV e f)) (shE (unitsV e f b) (unV e f))))) (((odV (unitsV e f b)).natAbs : Int) * pw ((shE (unitsV e f b) (unV e f)) - (min (shE (unitsV e f a) (unV e f)) (shE (unitsV e f b) (unV e f))))) 0 false)) = (((odV (unitsV e f b)).natAbs : Int) * pw ((shE (unitsV e f b) (unV e f)) - (min (shE (unitsV e f a) (unV e f)) (shE (unitsV e f b) (unV e f))))) * (whV (((odV (unitsV e f a)).natAbs : Int) * pw ((shE (unitsV e f a) (unV e f)) - (min (shE (unitsV e f a) (unV e f)) (shE (unitsV e f b) (unV e f))))) (((odV (unitsV e f b)).natAbs : Int) * pw ((shE (unitsV e f b) (unV e f)) - (min (shE (unitsV e f a) (unV e f)) (shE (unitsV e f b) (unV e f))))) 0 false) := IntWalk.i64_in _ (by omega)
  have kL : IntKind.i64.wrap ((((odV (unitsV e f a)).natAbs : Int) * pw ((shE (unitsV e f a) (unV e f)) - (min (shE (unitsV e f a) (unV e f)) (shE (unitsV e f b) (unV e f))))) - (((odV (unitsV e f b)).natAbs : Int) * pw ((shE (unitsV e f b) (unV e f)) - (min (shE (unitsV e f a) (unV e f)) (shE (unitsV e f b) (unV e f))))) * (whV (((odV (unitsV e f a)).natAbs : Int) * pw ((shE (unitsV e f a) (unV e f)) - (min (shE (unitsV e f a) (unV e f)) (shE (unitsV e f b) (unV e f))))) (((odV (unitsV e f b)).natAbs : Int) * pw ((shE (unitsV e f b) (unV e f)) - (min (shE (unitsV e f a) (unV e f)) (shE (unitsV e f b) (unV e f))))) 0 false)) = (((odV (unitsV e f a)).natAbs : Int) * pw ((shE (unitsV e f a) (unV e f)) - (min (shE (unitsV e f a) (unV e f)) (shE (unitsV e f b) (unV e f))))) - (((odV (unitsV e f b)).natAbs : Int) * pw ((shE (unitsV e f b) (unV e f)) - (min (shE (unitsV e f a) (unV e f)) (shE (unitsV e f b) (unV e f))))) * (whV (((odV (unitsV e f a)).natAbs : Int) * pw ((shE (unitsV e f a) (unV e f)) - (min (shE (unitsV e f a) (unV e f)) (shE (unitsV e f b) (unV e f))))) (((odV (unitsV e f b)).natAbs : Int) * pw ((shE (unitsV e f b) (unV e f)) - (min (shE (unitsV e f a) (unV e f)) (shE (unitsV e f b) (unV e f))))) 0 false) := IntWalk.i64_in _ (by omega)
  have kR : (((odV (unitsV e f a)).natAbs : Int) * pw ((shE (unitsV e f a) (unV e f)) - (min (shE (unitsV e f a) (unV e f)) (shE (unitsV e f b) (unV e f))))) - (((odV (unitsV e f b)).natAbs : Int) * pw ((shE (unitsV e f b) (unV e f)) - (min (shE (unitsV e f a) (unV e f)) (shE (unitsV e f b) (unV e f))))) * (whV (((odV (unitsV e f a)).natAbs : Int) * pw ((shE (unitsV e f a) (unV e f)) - (min (shE (unitsV e f a) (unV e f)) (shE (unitsV e f b) (unV e f))))) (((odV (unitsV e f b)).natAbs : Int) * pw ((shE (unitsV e f b) (unV e f)) - (min (shE (unitsV e f a) (unV e f)) (shE (unitsV e f b) (unV e f))))) 0 false) = R := hL
  rw [if_neg (by omega), hL] at RU
  have FOc := Lib.hid (fun w => finiteOf_z R (min (shE (unitsV e f a) (unV e f)) (shE (unitsV e f b) (unV e f))) 0 hR w)
  have sg2 : (0 : Int) = 0 ∨ (0 : Int) = 1 := by omega
  have OC := Lib.hid (fun (w : World) (hT : TW w) => ofTwoRest_fin e f a b 0 0 0 0 hap hbp (by omega) (by omega) sg2 (by omega) (by omega) (by omega) (by omega) (fun w => by rw [oa, ob]; exact rest_ff 0 ((odV (unitsV e f a)).natAbs : Int) (shE (unitsV e f a) (unV e f)) (b / pw (e + f)) ((odV (unitsV e f b)).natAbs : Int) (shE (unitsV e f b) (unV e f)) _ (fun w => frest_0 ((odV (unitsV e f a)).natAbs : Int) (shE (unitsV e f a) (unV e f)) (b / pw (e + f)) ((odV (unitsV e f b)).natAbs : Int) (shE (unitsV e f b) (unV e f)) (((odV (unitsV e f a)).natAbs : Int) * pw ((shE (unitsV e f a) (unV e f)) - (min (shE (unitsV e f a) (unV e f)) (shE (unitsV e f b) (unV e f))))) (((odV (unitsV e f b)).natAbs : Int) * pw ((shE (unitsV e f b) (unV e f)) - (min (shE (unitsV e f a) (unV e f)) (shE (unitsV e f b) (unV e f))))) (min (shE (unitsV e f a) (unV e f)) (shE (unitsV e f b) (unV e f))) (whV (((odV (unitsV e f a)).natAbs : Int) * pw ((shE (unitsV e f a) (unV e f)) - (min (shE (unitsV e f a) (unV e f)) (shE (unitsV e f b) (unV e f))))) (((odV (unitsV e f b)).natAbs : Int) * pw ((shE (unitsV e f b) (unV e f)) - (min (shE (unitsV e f a) (unV e f)) (shE (unitsV e f b) (unV e f))))) 0 false) ((((odV (unitsV e f a)).natAbs : Int) * pw ((shE (unitsV e f a) (unV e f)) - (min (shE (unitsV e f a) (unV e f)) (shE (unitsV e f b) (unV e f))))) - (((odV (unitsV e f b)).natAbs : Int) * pw ((shE (unitsV e f b) (unV e f)) - (min (shE (unitsV e f a) (unV e f)) (shE (unitsV e f b) (unV e f))))) * (whV (((odV (unitsV e f a)).natAbs : Int) * pw ((shE (unitsV e f a) (unV e f)) - (min (shE (unitsV e f a) (unV e f)) (shE (unitsV e f b) (unV e f))))) (((odV (unitsV e f b)).natAbs : Int) * pw ((shE (unitsV e f b) (unV e f)) - (min (shE (unitsV e f a) (unV e f)) (shE (unitsV e f b) (unV e f))))) 0 false)) R 0 0 0 (by omega) TG WQc kB kL kR FOc w) w) w hT)
  have RU := Lib.hid RU
  clear oa ob eb nz da d1 d2 p1 p2 p3 p4 A0 A1 B0 B1 few r0 l1 l2 TG WQc kB kL kR FOc sg2 hL ua1 ua2 ua3 ua4 ua5 ub1 ub2 ub3 ub4 ub5 u1 xa
  have HS := Lib.hid hs
  clear hs
  go_enter Tryz.func41, Tryz.ntmps41
  go_wp2_with (go_at_call 64; refine (OC.out _ (hT.ext Ext.auK)).mono ?_; rintro rv w1 ⟨s, rfl, hq, hb⟩; obtain rfl := re_zero hg0 rfl hq; clear hq; have ns : w.heap.size < w1.heap.size := hb.ltK; have n0 : w1.cell? ⟨w.heap.size, 0, none⟩ = some (.int .i64 e) := hb.cellK; have n1 : w1.cell? ⟨w.heap.size, 1, none⟩ = some (.int .i64 f) := hb.cellK; (first | (have nx := Ext.trans hx hb; clear hx) | (have nx := Ext.trans (hx.alloc _) hb; clear hx) | (have nx := Ext.trans hx.drew hb; clear hx) | have nx := hb); clear hb; try clear hs; try clear g0; try clear g1; have hx := nx; clear nx; have hs := ns; clear ns; have g0 := n0; clear n0; have g1 := n1; clear n1)
  have hs := HS.out
  go_ret2
  exact ⟨_, rfl, Or.inr (Or.inr (Or.inl ⟨by unfold rqP; omega, kb3, by rw [← RU.out, hR, Int.zero_mul], by rw [hs]; omega⟩)), Ext.auK⟩

set_option maxHeartbeats 1600000 in
theorem iRemainderOf_vf0p (e f a b : Int) (hg : reB e f a b = true) (ka : kindV e f a < 3) (fa : finB e f a = true) (kb : kindV e f b = 1 ∨ kindV e f b = 2) (fb : finB e f b = true) (nb : unitsV e f b ≠ 0) (R : Int) (hs : (a / pw (e + f)) = 0) (hL : (((odV (unitsV e f a)).natAbs : Int) * pw ((shE (unitsV e f a) (unV e f)) - (min (shE (unitsV e f a) (unV e f)) (shE (unitsV e f b) (unV e f))))) - (((odV (unitsV e f b)).natAbs : Int) * pw ((shE (unitsV e f b) (unV e f)) - (min (shE (unitsV e f a) (unV e f)) (shE (unitsV e f b) (unV e f))))) * (whV (((odV (unitsV e f a)).natAbs : Int) * pw ((shE (unitsV e f a) (unV e f)) - (min (shE (unitsV e f a) (unV e f)) (shE (unitsV e f b) (unV e f))))) (((odV (unitsV e f b)).natAbs : Int) * pw ((shE (unitsV e f b) (unV e f)) - (min (shE (unitsV e f a) (unV e f)) (shE (unitsV e f b) (unV e f))))) 0 false) = R) (hR : 0 < R) (w : World) (hT : TW w) : Calls Tryz.prog 41 #[fmt e f, .int .i64 a, .int .i64 b] w (ARboth (ReD e f a b) w) := by
  obtain ⟨hap, hbp⟩ := re_iff.1 hg
  have hg0 := (pat_iff.1 hap).1
  have sga := sign_01 hap
  obtain ⟨ua1, ua2, ua3, ua4, ua5⟩ := un_small hap
  obtain ⟨ub1, ub2, ub3, ub4, ub5⟩ := un_small hbp
  have u1 := un_bd (pat_iff.1 hap).1
  have xa : (unV e f) ≤ (shE (unitsV e f a) (unV e f)) ∧ (shE (unitsV e f a) (unV e f)) ≤ 41 ∧ (shE (unitsV e f a) (unV e f)) - (unV e f) ≤ 42 := by
    by_cases h : (unitsV e f a) = 0
    · have := ua5 h; omega
    · have := ua4 h; omega
  have kb3 : kindV e f b ≠ 3 := by omega
  have oa := op_fin (e := e) (f := f) (p := a) fa
  have ob := op_fin (e := e) (f := f) (p := b) fb
  rw [hs] at oa
  have eb := ub4 nb
  have nz : 0 < ((odV (unitsV e f b)).natAbs : Int) := by
    rcases Int.lt_or_eq_of_le (show 0 ≤ ((odV (unitsV e f b)).natAbs : Int) by omega) with h | h
    · exact h
    · exact absurd ((od_sign (S := (unitsV e f b)) (by have := units_bd e f b hbp; omega) (by have := units_bd e f b hbp; omega)).2.1 (by omega)) nb
  have hmn : (unV e f) ≤ (min (shE (unitsV e f a) (unV e f)) (shE (unitsV e f b) (unV e f))) := by omega
  have RU := re_units hap hbp nb hmn
  have da : 0 ≤ (shE (unitsV e f a) (unV e f)) - (min (shE (unitsV e f a) (unV e f)) (shE (unitsV e f b) (unV e f))) ∧ (shE (unitsV e f a) (unV e f)) - (min (shE (unitsV e f a) (unV e f)) (shE (unitsV e f b) (unV e f))) ≤ 66 := by omega
  have d1 : 0 ≤ (shE (unitsV e f a) (unV e f)) - (min (shE (unitsV e f a) (unV e f)) (shE (unitsV e f b) (unV e f))) ∧ (shE (unitsV e f a) (unV e f)) - (min (shE (unitsV e f a) (unV e f)) (shE (unitsV e f b) (unV e f))) ≤ 42 := by omega
  have d2 : 0 ≤ (shE (unitsV e f b) (unV e f)) - (min (shE (unitsV e f a) (unV e f)) (shE (unitsV e f b) (unV e f))) ∧ (shE (unitsV e f b) (unV e f)) - (min (shE (unitsV e f a) (unV e f)) (shE (unitsV e f b) (unV e f))) ≤ 42 := by omega
  have p1 := pw_pos ((shE (unitsV e f a) (unV e f)) - (min (shE (unitsV e f a) (unV e f)) (shE (unitsV e f b) (unV e f))))
  have p2 : pw ((shE (unitsV e f a) (unV e f)) - (min (shE (unitsV e f a) (unV e f)) (shE (unitsV e f b) (unV e f)))) ≤ 4398046511104 := pw_le 42 4398046511104 rfl (by omega)
  have p3 := pw_pos ((shE (unitsV e f b) (unV e f)) - (min (shE (unitsV e f a) (unV e f)) (shE (unitsV e f b) (unV e f))))
  have p4 : pw ((shE (unitsV e f b) (unV e f)) - (min (shE (unitsV e f a) (unV e f)) (shE (unitsV e f b) (unV e f)))) ≤ 4398046511104 := pw_le 42 4398046511104 rfl (by omega)
  have A0 : 0 ≤ (((odV (unitsV e f a)).natAbs : Int) * pw ((shE (unitsV e f a) (unV e f)) - (min (shE (unitsV e f a) (unV e f)) (shE (unitsV e f b) (unV e f))))) := Int.mul_nonneg (by omega) (by omega)
  have A1 : (((odV (unitsV e f a)).natAbs : Int) * pw ((shE (unitsV e f a) (unV e f)) - (min (shE (unitsV e f a) (unV e f)) (shE (unitsV e f b) (unV e f))))) ≤ 2048 * 4398046511104 := Int.mul_le_mul (by omega) p2 (by omega) (by omega)
  have B0 : 0 < (((odV (unitsV e f b)).natAbs : Int) * pw ((shE (unitsV e f b) (unV e f)) - (min (shE (unitsV e f a) (unV e f)) (shE (unitsV e f b) (unV e f))))) := Int.mul_pos nz (by omega)
  have B1 : (((odV (unitsV e f b)).natAbs : Int) * pw ((shE (unitsV e f b) (unV e f)) - (min (shE (unitsV e f a) (unV e f)) (shE (unitsV e f b) (unV e f))))) ≤ 2048 * 4398046511104 := Int.mul_le_mul (by omega) p4 (by omega) (by omega)
  have few : (((odV (unitsV e f a)).natAbs : Int) * pw ((shE (unitsV e f a) (unV e f)) - (min (shE (unitsV e f a) (unV e f)) (shE (unitsV e f b) (unV e f))))) % (((odV (unitsV e f b)).natAbs : Int) * pw ((shE (unitsV e f b) (unV e f)) - (min (shE (unitsV e f a) (unV e f)) (shE (unitsV e f b) (unV e f))))) < 16777216 := by
    have r1 := Int.emod_lt_of_pos (((odV (unitsV e f a)).natAbs : Int) * pw ((shE (unitsV e f a) (unV e f)) - (min (shE (unitsV e f a) (unV e f)) (shE (unitsV e f b) (unV e f))))) B0
    have r2 := Int.mul_ediv_add_emod (((odV (unitsV e f a)).natAbs : Int) * pw ((shE (unitsV e f a) (unV e f)) - (min (shE (unitsV e f a) (unV e f)) (shE (unitsV e f b) (unV e f))))) (((odV (unitsV e f b)).natAbs : Int) * pw ((shE (unitsV e f b) (unV e f)) - (min (shE (unitsV e f a) (unV e f)) (shE (unitsV e f b) (unV e f)))))
    have r3 : 0 ≤ (((odV (unitsV e f a)).natAbs : Int) * pw ((shE (unitsV e f a) (unV e f)) - (min (shE (unitsV e f a) (unV e f)) (shE (unitsV e f b) (unV e f))))) / (((odV (unitsV e f b)).natAbs : Int) * pw ((shE (unitsV e f b) (unV e f)) - (min (shE (unitsV e f a) (unV e f)) (shE (unitsV e f b) (unV e f))))) := Int.ediv_nonneg A0 (by omega)
    have r4 : 0 ≤ (((odV (unitsV e f b)).natAbs : Int) * pw ((shE (unitsV e f b) (unV e f)) - (min (shE (unitsV e f a) (unV e f)) (shE (unitsV e f b) (unV e f))))) * ((((odV (unitsV e f a)).natAbs : Int) * pw ((shE (unitsV e f a) (unV e f)) - (min (shE (unitsV e f a) (unV e f)) (shE (unitsV e f b) (unV e f))))) / (((odV (unitsV e f b)).natAbs : Int) * pw ((shE (unitsV e f b) (unV e f)) - (min (shE (unitsV e f a) (unV e f)) (shE (unitsV e f b) (unV e f)))))) := Int.mul_nonneg (by omega) r3
    by_cases h : (shE (unitsV e f b) (unV e f)) ≤ (shE (unitsV e f a) (unV e f))
    · have e0 : (((odV (unitsV e f b)).natAbs : Int) * pw ((shE (unitsV e f b) (unV e f)) - (min (shE (unitsV e f a) (unV e f)) (shE (unitsV e f b) (unV e f))))) = ((odV (unitsV e f b)).natAbs : Int) := by rw [show (shE (unitsV e f b) (unV e f)) - (min (shE (unitsV e f a) (unV e f)) (shE (unitsV e f b) (unV e f))) = 0 by omega, show pw 0 = 1 from rfl, Int.mul_one]
      omega
    · have e0 : (((odV (unitsV e f a)).natAbs : Int) * pw ((shE (unitsV e f a) (unV e f)) - (min (shE (unitsV e f a) (unV e f)) (shE (unitsV e f b) (unV e f))))) = ((odV (unitsV e f a)).natAbs : Int) := by rw [show (shE (unitsV e f a) (unV e f)) - (min (shE (unitsV e f a) (unV e f)) (shE (unitsV e f b) (unV e f))) = 0 by omega, show pw 0 = 1 from rfl, Int.mul_one]
      omega
  have r0 := Int.emod_nonneg (((odV (unitsV e f a)).natAbs : Int) * pw ((shE (unitsV e f a) (unV e f)) - (min (shE (unitsV e f a) (unV e f)) (shE (unitsV e f b) (unV e f))))) (show (((odV (unitsV e f b)).natAbs : Int) * pw ((shE (unitsV e f b) (unV e f)) - (min (shE (unitsV e f a) (unV e f)) (shE (unitsV e f b) (unV e f))))) ≠ 0 by omega)
  obtain ⟨l1, l2⟩ := wh_near (N := (((odV (unitsV e f a)).natAbs : Int) * pw ((shE (unitsV e f a) (unV e f)) - (min (shE (unitsV e f a) (unV e f)) (shE (unitsV e f b) (unV e f)))))) (v := (((odV (unitsV e f b)).natAbs : Int) * pw ((shE (unitsV e f b) (unV e f)) - (min (shE (unitsV e f a) (unV e f)) (shE (unitsV e f b) (unV e f)))))) A0 B0
  have TG := Lib.hid (fun w => together_any 0 ((odV (unitsV e f a)).natAbs : Int) (shE (unitsV e f a) (unV e f)) (b / pw (e + f)) ((odV (unitsV e f b)).natAbs : Int) (shE (unitsV e f b) (unV e f)) _ _ rfl rfl (by omega) (by omega) (by omega) (by omega) (IntWalk.i64_in _ (by omega)) (IntWalk.i64_in _ (by omega)) w)
  have WQc := Lib.hid (fun w => wholeQuotient_any (((odV (unitsV e f a)).natAbs : Int) * pw ((shE (unitsV e f a) (unV e f)) - (min (shE (unitsV e f a) (unV e f)) (shE (unitsV e f b) (unV e f))))) (((odV (unitsV e f b)).natAbs : Int) * pw ((shE (unitsV e f b) (unV e f)) - (min (shE (unitsV e f a) (unV e f)) (shE (unitsV e f b) (unV e f))))) 0 false A0 (by omega) B0 (by omega) (by omega) (by omega) (ok_few r0 few) (lt_few r0 few) (ok_npw (by omega) (by omega) (by omega) (by omega)) w)
  have kB : IntKind.i64.wrap ((((odV (unitsV e f b)).natAbs : Int) * pw ((shE (unitsV e f b) (unV e f)) - (min (shE (unitsV e f a) (unV e f)) (shE (unitsV e f b) (unV e f))))) * (whV (((odV (unitsV e f a)).natAbs : Int) * pw ((shE (unitsV e f a) (unV e f)) - (min (shE (unitsV e f a) (unV e f)) (shE (unitsV e f b) (unV e f))))) (((odV (unitsV e f b)).natAbs : Int) * pw ((shE (unitsV e f b) (unV e f)) - (min (shE (unitsV e f a) (unV e f)) (shE (unitsV e f b) (unV e f))))) 0 false)) = (((odV (unitsV e f b)).natAbs : Int) * pw ((shE (unitsV e f b) (unV e f)) - (min (shE (unitsV e f a) (unV e f)) (shE (unitsV e f b) (unV e f))))) * (whV (((odV (unitsV e f a)).natAbs : Int) * pw ((shE (unitsV e f a) (unV e f)) - (min (shE (unitsV e f a) (unV e f)) (shE (unitsV e f b) (unV e f))))) (((odV (unitsV e f b)).natAbs : Int) * pw ((shE (unitsV e f b) (unV e f)) - (min (shE (unitsV e f a) (unV e f)) (shE (unitsV e f b) (unV e f))))) 0 false) := IntWalk.i64_in _ (by omega)
  have kL : IntKind.i64.wrap ((((odV (unitsV e f a)).natAbs : Int) * pw ((shE (unitsV e f a) (unV e f)) - (min (shE (unitsV e f a) (unV e f)) (shE (unitsV e f b) (unV e f))))) - (((odV (unitsV e f b)).natAbs : Int) * pw ((shE (unitsV e f b) (unV e f)) - (min (shE (unitsV e f a) (unV e f)) (shE (unitsV e f b) (unV e f))))) * (whV (((odV (unitsV e f a)).natAbs : Int) * pw ((shE (unitsV e f a) (unV e f)) - (min (shE (unitsV e f a) (unV e f)) (shE (unitsV e f b) (unV e f))))) (((odV (unitsV e f b)).natAbs : Int) * pw ((shE (unitsV e f b) (unV e f)) - (min (shE (unitsV e f a) (unV e f)) (shE (unitsV e f b) (unV e f))))) 0 false)) = (((odV (unitsV e f a)).natAbs : Int) * pw ((shE (unitsV e f a) (unV e f)) - (min (shE (unitsV e f a) (unV e f)) (shE (unitsV e f b) (unV e f))))) - (((odV (unitsV e f b)).natAbs : Int) * pw ((shE (unitsV e f b) (unV e f)) - (min (shE (unitsV e f a) (unV e f)) (shE (unitsV e f b) (unV e f))))) * (whV (((odV (unitsV e f a)).natAbs : Int) * pw ((shE (unitsV e f a) (unV e f)) - (min (shE (unitsV e f a) (unV e f)) (shE (unitsV e f b) (unV e f))))) (((odV (unitsV e f b)).natAbs : Int) * pw ((shE (unitsV e f b) (unV e f)) - (min (shE (unitsV e f a) (unV e f)) (shE (unitsV e f b) (unV e f))))) 0 false) := IntWalk.i64_in _ (by omega)
  have kR : (((odV (unitsV e f a)).natAbs : Int) * pw ((shE (unitsV e f a) (unV e f)) - (min (shE (unitsV e f a) (unV e f)) (shE (unitsV e f b) (unV e f))))) - (((odV (unitsV e f b)).natAbs : Int) * pw ((shE (unitsV e f b) (unV e f)) - (min (shE (unitsV e f a) (unV e f)) (shE (unitsV e f b) (unV e f))))) * (whV (((odV (unitsV e f a)).natAbs : Int) * pw ((shE (unitsV e f a) (unV e f)) - (min (shE (unitsV e f a) (unV e f)) (shE (unitsV e f b) (unV e f))))) (((odV (unitsV e f b)).natAbs : Int) * pw ((shE (unitsV e f b) (unV e f)) - (min (shE (unitsV e f a) (unV e f)) (shE (unitsV e f b) (unV e f))))) 0 false) = R := hL
  rw [if_neg (by omega), hL] at RU
  have FOc := Lib.hid (fun w => finiteOf_p R (min (shE (unitsV e f a) (unV e f)) (shE (unitsV e f b) (unV e f))) 0 hR w)
  have sg2 : (0 : Int) = 0 ∨ (0 : Int) = 1 := by omega
  have OC := Lib.hid (fun (w : World) (hT : TW w) => ofTwoRest_fin e f a b 0 0 R (min (shE (unitsV e f a) (unV e f)) (shE (unitsV e f b) (unV e f))) hap hbp (by omega) (by omega) sg2 (by omega) (by omega) (by omega) (by omega) (fun w => by rw [oa, ob]; exact rest_ff 0 ((odV (unitsV e f a)).natAbs : Int) (shE (unitsV e f a) (unV e f)) (b / pw (e + f)) ((odV (unitsV e f b)).natAbs : Int) (shE (unitsV e f b) (unV e f)) _ (fun w => frest_0 ((odV (unitsV e f a)).natAbs : Int) (shE (unitsV e f a) (unV e f)) (b / pw (e + f)) ((odV (unitsV e f b)).natAbs : Int) (shE (unitsV e f b) (unV e f)) (((odV (unitsV e f a)).natAbs : Int) * pw ((shE (unitsV e f a) (unV e f)) - (min (shE (unitsV e f a) (unV e f)) (shE (unitsV e f b) (unV e f))))) (((odV (unitsV e f b)).natAbs : Int) * pw ((shE (unitsV e f b) (unV e f)) - (min (shE (unitsV e f a) (unV e f)) (shE (unitsV e f b) (unV e f))))) (min (shE (unitsV e f a) (unV e f)) (shE (unitsV e f b) (unV e f))) (whV (((odV (unitsV e f a)).natAbs : Int) * pw ((shE (unitsV e f a) (unV e f)) - (min (shE (unitsV e f a) (unV e f)) (shE (unitsV e f b) (unV e f))))) (((odV (unitsV e f b)).natAbs : Int) * pw ((shE (unitsV e f b) (unV e f)) - (min (shE (unitsV e f a) (unV e f)) (shE (unitsV e f b) (unV e f))))) 0 false) ((((odV (unitsV e f a)).natAbs : Int) * pw ((shE (unitsV e f a) (unV e f)) - (min (shE (unitsV e f a) (unV e f)) (shE (unitsV e f b) (unV e f))))) - (((odV (unitsV e f b)).natAbs : Int) * pw ((shE (unitsV e f b) (unV e f)) - (min (shE (unitsV e f a) (unV e f)) (shE (unitsV e f b) (unV e f))))) * (whV (((odV (unitsV e f a)).natAbs : Int) * pw ((shE (unitsV e f a) (unV e f)) - (min (shE (unitsV e f a) (unV e f)) (shE (unitsV e f b) (unV e f))))) (((odV (unitsV e f b)).natAbs : Int) * pw ((shE (unitsV e f b) (unV e f)) - (min (shE (unitsV e f a) (unV e f)) (shE (unitsV e f b) (unV e f))))) 0 false)) R 0 R (min (shE (unitsV e f a) (unV e f)) (shE (unitsV e f b) (unV e f))) (by omega) TG WQc kB kL kR FOc w) w) w hT)
  have RU := Lib.hid RU
  clear oa ob eb nz da d1 d2 p1 p2 p3 p4 A0 A1 B0 B1 few r0 l1 l2 TG WQc kB kL kR FOc sg2 hL ua1 ua2 ua3 ua4 ua5 ub1 ub2 ub3 ub4 ub5 u1 xa
  have HS := Lib.hid hs
  clear hs
  go_enter Tryz.func41, Tryz.ntmps41
  go_wp2_with (go_at_call 64; refine (OC.out _ (hT.ext Ext.auK)).mono ?_; rintro rv w1 ⟨s, rfl, hq, hb⟩; have HQ := Lib.hid hq; clear hq; have ns : w.heap.size < w1.heap.size := hb.ltK; have n0 : w1.cell? ⟨w.heap.size, 0, none⟩ = some (.int .i64 e) := hb.cellK; have n1 : w1.cell? ⟨w.heap.size, 1, none⟩ = some (.int .i64 f) := hb.cellK; (first | (have nx := Ext.trans hx hb; clear hx) | (have nx := Ext.trans (hx.alloc _) hb; clear hx) | (have nx := Ext.trans hx.drew hb; clear hx) | have nx := hb); clear hb; try clear hs; try clear g0; try clear g1; have hx := nx; clear nx; have hs := ns; clear ns; have g0 := n0; clear n0; have g1 := n1; clear n1)
  have hs := HS.out
  go_ret2
  exact ⟨_, rfl, Or.inr (Or.inr (Or.inr ⟨by unfold rqP; omega, kb3, by have := (re_pos (by omega) hR RU.out HQ.out).1; omega, s, by rw [← (re_pos (by omega) hR RU.out HQ.out).2.1]; first | rfl | omega, (re_pos (by omega) hR RU.out HQ.out).2.2⟩)), Ext.auK⟩

set_option maxHeartbeats 1600000 in
theorem iRemainderOf_vf1n (e f a b : Int) (hg : reB e f a b = true) (ka : kindV e f a < 3) (fa : finB e f a = true) (kb : kindV e f b = 1 ∨ kindV e f b = 2) (fb : finB e f b = true) (nb : unitsV e f b ≠ 0) (R : Int) (hs : (a / pw (e + f)) = 1) (hL : -((((odV (unitsV e f a)).natAbs : Int) * pw ((shE (unitsV e f a) (unV e f)) - (min (shE (unitsV e f a) (unV e f)) (shE (unitsV e f b) (unV e f))))) - (((odV (unitsV e f b)).natAbs : Int) * pw ((shE (unitsV e f b) (unV e f)) - (min (shE (unitsV e f a) (unV e f)) (shE (unitsV e f b) (unV e f))))) * (whV (((odV (unitsV e f a)).natAbs : Int) * pw ((shE (unitsV e f a) (unV e f)) - (min (shE (unitsV e f a) (unV e f)) (shE (unitsV e f b) (unV e f))))) (((odV (unitsV e f b)).natAbs : Int) * pw ((shE (unitsV e f b) (unV e f)) - (min (shE (unitsV e f a) (unV e f)) (shE (unitsV e f b) (unV e f))))) 0 false)) = R) (hR : R < 0) (w : World) (hT : TW w) : Calls Tryz.prog 41 #[fmt e f, .int .i64 a, .int .i64 b] w (ARboth (ReD e f a b) w) := by
  obtain ⟨hap, hbp⟩ := re_iff.1 hg
  have hg0 := (pat_iff.1 hap).1
  have sga := sign_01 hap
  obtain ⟨ua1, ua2, ua3, ua4, ua5⟩ := un_small hap
  obtain ⟨ub1, ub2, ub3, ub4, ub5⟩ := un_small hbp
  have u1 := un_bd (pat_iff.1 hap).1
  have xa : (unV e f) ≤ (shE (unitsV e f a) (unV e f)) ∧ (shE (unitsV e f a) (unV e f)) ≤ 41 ∧ (shE (unitsV e f a) (unV e f)) - (unV e f) ≤ 42 := by
    by_cases h : (unitsV e f a) = 0
    · have := ua5 h; omega
    · have := ua4 h; omega
  have kb3 : kindV e f b ≠ 3 := by omega
  have oa := op_fin (e := e) (f := f) (p := a) fa
  have ob := op_fin (e := e) (f := f) (p := b) fb
  rw [hs] at oa
  have eb := ub4 nb
  have nz : 0 < ((odV (unitsV e f b)).natAbs : Int) := by
    rcases Int.lt_or_eq_of_le (show 0 ≤ ((odV (unitsV e f b)).natAbs : Int) by omega) with h | h
    · exact h
    · exact absurd ((od_sign (S := (unitsV e f b)) (by have := units_bd e f b hbp; omega) (by have := units_bd e f b hbp; omega)).2.1 (by omega)) nb
  have hmn : (unV e f) ≤ (min (shE (unitsV e f a) (unV e f)) (shE (unitsV e f b) (unV e f))) := by omega
  have RU := re_units hap hbp nb hmn
  have da : 0 ≤ (shE (unitsV e f a) (unV e f)) - (min (shE (unitsV e f a) (unV e f)) (shE (unitsV e f b) (unV e f))) ∧ (shE (unitsV e f a) (unV e f)) - (min (shE (unitsV e f a) (unV e f)) (shE (unitsV e f b) (unV e f))) ≤ 66 := by omega
  have d1 : 0 ≤ (shE (unitsV e f a) (unV e f)) - (min (shE (unitsV e f a) (unV e f)) (shE (unitsV e f b) (unV e f))) ∧ (shE (unitsV e f a) (unV e f)) - (min (shE (unitsV e f a) (unV e f)) (shE (unitsV e f b) (unV e f))) ≤ 42 := by omega
  have d2 : 0 ≤ (shE (unitsV e f b) (unV e f)) - (min (shE (unitsV e f a) (unV e f)) (shE (unitsV e f b) (unV e f))) ∧ (shE (unitsV e f b) (unV e f)) - (min (shE (unitsV e f a) (unV e f)) (shE (unitsV e f b) (unV e f))) ≤ 42 := by omega
  have p1 := pw_pos ((shE (unitsV e f a) (unV e f)) - (min (shE (unitsV e f a) (unV e f)) (shE (unitsV e f b) (unV e f))))
  have p2 : pw ((shE (unitsV e f a) (unV e f)) - (min (shE (unitsV e f a) (unV e f)) (shE (unitsV e f b) (unV e f)))) ≤ 4398046511104 := pw_le 42 4398046511104 rfl (by omega)
  have p3 := pw_pos ((shE (unitsV e f b) (unV e f)) - (min (shE (unitsV e f a) (unV e f)) (shE (unitsV e f b) (unV e f))))
  have p4 : pw ((shE (unitsV e f b) (unV e f)) - (min (shE (unitsV e f a) (unV e f)) (shE (unitsV e f b) (unV e f)))) ≤ 4398046511104 := pw_le 42 4398046511104 rfl (by omega)
  have A0 : 0 ≤ (((odV (unitsV e f a)).natAbs : Int) * pw ((shE (unitsV e f a) (unV e f)) - (min (shE (unitsV e f a) (unV e f)) (shE (unitsV e f b) (unV e f))))) := Int.mul_nonneg (by omega) (by omega)
  have A1 : (((odV (unitsV e f a)).natAbs : Int) * pw ((shE (unitsV e f a) (unV e f)) - (min (shE (unitsV e f a) (unV e f)) (shE (unitsV e f b) (unV e f))))) ≤ 2048 * 4398046511104 := Int.mul_le_mul (by omega) p2 (by omega) (by omega)
  have B0 : 0 < (((odV (unitsV e f b)).natAbs : Int) * pw ((shE (unitsV e f b) (unV e f)) - (min (shE (unitsV e f a) (unV e f)) (shE (unitsV e f b) (unV e f))))) := Int.mul_pos nz (by omega)
  have B1 : (((odV (unitsV e f b)).natAbs : Int) * pw ((shE (unitsV e f b) (unV e f)) - (min (shE (unitsV e f a) (unV e f)) (shE (unitsV e f b) (unV e f))))) ≤ 2048 * 4398046511104 := Int.mul_le_mul (by omega) p4 (by omega) (by omega)
  have few : (((odV (unitsV e f a)).natAbs : Int) * pw ((shE (unitsV e f a) (unV e f)) - (min (shE (unitsV e f a) (unV e f)) (shE (unitsV e f b) (unV e f))))) % (((odV (unitsV e f b)).natAbs : Int) * pw ((shE (unitsV e f b) (unV e f)) - (min (shE (unitsV e f a) (unV e f)) (shE (unitsV e f b) (unV e f))))) < 16777216 := by
    have r1 := Int.emod_lt_of_pos (((odV (unitsV e f a)).natAbs : Int) * pw ((shE (unitsV e f a) (unV e f)) - (min (shE (unitsV e f a) (unV e f)) (shE (unitsV e f b) (unV e f))))) B0
    have r2 := Int.mul_ediv_add_emod (((odV (unitsV e f a)).natAbs : Int) * pw ((shE (unitsV e f a) (unV e f)) - (min (shE (unitsV e f a) (unV e f)) (shE (unitsV e f b) (unV e f))))) (((odV (unitsV e f b)).natAbs : Int) * pw ((shE (unitsV e f b) (unV e f)) - (min (shE (unitsV e f a) (unV e f)) (shE (unitsV e f b) (unV e f)))))
    have r3 : 0 ≤ (((odV (unitsV e f a)).natAbs : Int) * pw ((shE (unitsV e f a) (unV e f)) - (min (shE (unitsV e f a) (unV e f)) (shE (unitsV e f b) (unV e f))))) / (((odV (unitsV e f b)).natAbs : Int) * pw ((shE (unitsV e f b) (unV e f)) - (min (shE (unitsV e f a) (unV e f)) (shE (unitsV e f b) (unV e f))))) := Int.ediv_nonneg A0 (by omega)
    have r4 : 0 ≤ (((odV (unitsV e f b)).natAbs : Int) * pw ((shE (unitsV e f b) (unV e f)) - (min (shE (unitsV e f a) (unV e f)) (shE (unitsV e f b) (unV e f))))) * ((((odV (unitsV e f a)).natAbs : Int) * pw ((shE (unitsV e f a) (unV e f)) - (min (shE (unitsV e f a) (unV e f)) (shE (unitsV e f b) (unV e f))))) / (((odV (unitsV e f b)).natAbs : Int) * pw ((shE (unitsV e f b) (unV e f)) - (min (shE (unitsV e f a) (unV e f)) (shE (unitsV e f b) (unV e f)))))) := Int.mul_nonneg (by omega) r3
    by_cases h : (shE (unitsV e f b) (unV e f)) ≤ (shE (unitsV e f a) (unV e f))
    · have e0 : (((odV (unitsV e f b)).natAbs : Int) * pw ((shE (unitsV e f b) (unV e f)) - (min (shE (unitsV e f a) (unV e f)) (shE (unitsV e f b) (unV e f))))) = ((odV (unitsV e f b)).natAbs : Int) := by rw [show (shE (unitsV e f b) (unV e f)) - (min (shE (unitsV e f a) (unV e f)) (shE (unitsV e f b) (unV e f))) = 0 by omega, show pw 0 = 1 from rfl, Int.mul_one]
      omega
    · have e0 : (((odV (unitsV e f a)).natAbs : Int) * pw ((shE (unitsV e f a) (unV e f)) - (min (shE (unitsV e f a) (unV e f)) (shE (unitsV e f b) (unV e f))))) = ((odV (unitsV e f a)).natAbs : Int) := by rw [show (shE (unitsV e f a) (unV e f)) - (min (shE (unitsV e f a) (unV e f)) (shE (unitsV e f b) (unV e f))) = 0 by omega, show pw 0 = 1 from rfl, Int.mul_one]
      omega
  have r0 := Int.emod_nonneg (((odV (unitsV e f a)).natAbs : Int) * pw ((shE (unitsV e f a) (unV e f)) - (min (shE (unitsV e f a) (unV e f)) (shE (unitsV e f b) (unV e f))))) (show (((odV (unitsV e f b)).natAbs : Int) * pw ((shE (unitsV e f b) (unV e f)) - (min (shE (unitsV e f a) (unV e f)) (shE (unitsV e f b) (unV e f))))) ≠ 0 by omega)
  obtain ⟨l1, l2⟩ := wh_near (N := (((odV (unitsV e f a)).natAbs : Int) * pw ((shE (unitsV e f a) (unV e f)) - (min (shE (unitsV e f a) (unV e f)) (shE (unitsV e f b) (unV e f)))))) (v := (((odV (unitsV e f b)).natAbs : Int) * pw ((shE (unitsV e f b) (unV e f)) - (min (shE (unitsV e f a) (unV e f)) (shE (unitsV e f b) (unV e f)))))) A0 B0
  have TG := Lib.hid (fun w => together_any 1 ((odV (unitsV e f a)).natAbs : Int) (shE (unitsV e f a) (unV e f)) (b / pw (e + f)) ((odV (unitsV e f b)).natAbs : Int) (shE (unitsV e f b) (unV e f)) _ _ rfl rfl (by omega) (by omega) (by omega) (by omega) (IntWalk.i64_in _ (by omega)) (IntWalk.i64_in _ (by omega)) w)
  have WQc := Lib.hid (fun w => wholeQuotient_any (((odV (unitsV e f a)).natAbs : Int) * pw ((shE (unitsV e f a) (unV e f)) - (min (shE (unitsV e f a) (unV e f)) (shE (unitsV e f b) (unV e f))))) (((odV (unitsV e f b)).natAbs : Int) * pw ((shE (unitsV e f b) (unV e f)) - (min (shE (unitsV e f a) (unV e f)) (shE (unitsV e f b) (unV e f))))) 0 false A0 (by omega) B0 (by omega) (by omega) (by omega) (ok_few r0 few) (lt_few r0 few) (ok_npw (by omega) (by omega) (by omega) (by omega)) w)
  have kB : IntKind.i64.wrap ((((odV (unitsV e f b)).natAbs : Int) * pw ((shE (unitsV e f b) (unV e f)) - (min (shE (unitsV e f a) (unV e f)) (shE (unitsV e f b) (unV e f))))) * (whV (((odV (unitsV e f a)).natAbs : Int) * pw ((shE (unitsV e f a) (unV e f)) - (min (shE (unitsV e f a) (unV e f)) (shE (unitsV e f b) (unV e f))))) (((odV (unitsV e f b)).natAbs : Int) * pw ((shE (unitsV e f b) (unV e f)) - (min (shE (unitsV e f a) (unV e f)) (shE (unitsV e f b) (unV e f))))) 0 false)) = (((odV (unitsV e f b)).natAbs : Int) * pw ((shE (unitsV e f b) (unV e f)) - (min (shE (unitsV e f a) (unV e f)) (shE (unitsV e f b) (unV e f))))) * (whV (((odV (unitsV e f a)).natAbs : Int) * pw ((shE (unitsV e f a) (unV e f)) - (min (shE (unitsV e f a) (unV e f)) (shE (unitsV e f b) (unV e f))))) (((odV (unitsV e f b)).natAbs : Int) * pw ((shE (unitsV e f b) (unV e f)) - (min (shE (unitsV e f a) (unV e f)) (shE (unitsV e f b) (unV e f))))) 0 false) := IntWalk.i64_in _ (by omega)
  have kL : IntKind.i64.wrap ((((odV (unitsV e f a)).natAbs : Int) * pw ((shE (unitsV e f a) (unV e f)) - (min (shE (unitsV e f a) (unV e f)) (shE (unitsV e f b) (unV e f))))) - (((odV (unitsV e f b)).natAbs : Int) * pw ((shE (unitsV e f b) (unV e f)) - (min (shE (unitsV e f a) (unV e f)) (shE (unitsV e f b) (unV e f))))) * (whV (((odV (unitsV e f a)).natAbs : Int) * pw ((shE (unitsV e f a) (unV e f)) - (min (shE (unitsV e f a) (unV e f)) (shE (unitsV e f b) (unV e f))))) (((odV (unitsV e f b)).natAbs : Int) * pw ((shE (unitsV e f b) (unV e f)) - (min (shE (unitsV e f a) (unV e f)) (shE (unitsV e f b) (unV e f))))) 0 false)) = (((odV (unitsV e f a)).natAbs : Int) * pw ((shE (unitsV e f a) (unV e f)) - (min (shE (unitsV e f a) (unV e f)) (shE (unitsV e f b) (unV e f))))) - (((odV (unitsV e f b)).natAbs : Int) * pw ((shE (unitsV e f b) (unV e f)) - (min (shE (unitsV e f a) (unV e f)) (shE (unitsV e f b) (unV e f))))) * (whV (((odV (unitsV e f a)).natAbs : Int) * pw ((shE (unitsV e f a) (unV e f)) - (min (shE (unitsV e f a) (unV e f)) (shE (unitsV e f b) (unV e f))))) (((odV (unitsV e f b)).natAbs : Int) * pw ((shE (unitsV e f b) (unV e f)) - (min (shE (unitsV e f a) (unV e f)) (shE (unitsV e f b) (unV e f))))) 0 false) := IntWalk.i64_in _ (by omega)
  have kR : IntKind.i64.wrap (-((((odV (unitsV e f a)).natAbs : Int) * pw ((shE (unitsV e f a) (unV e f)) - (min (shE (unitsV e f a) (unV e f)) (shE (unitsV e f b) (unV e f))))) - (((odV (unitsV e f b)).natAbs : Int) * pw ((shE (unitsV e f b) (unV e f)) - (min (shE (unitsV e f a) (unV e f)) (shE (unitsV e f b) (unV e f))))) * (whV (((odV (unitsV e f a)).natAbs : Int) * pw ((shE (unitsV e f a) (unV e f)) - (min (shE (unitsV e f a) (unV e f)) (shE (unitsV e f b) (unV e f))))) (((odV (unitsV e f b)).natAbs : Int) * pw ((shE (unitsV e f b) (unV e f)) - (min (shE (unitsV e f a) (unV e f)) (shE (unitsV e f b) (unV e f))))) 0 false))) = R := by rw [← hL]; exact IntWalk.i64_in _ (by omega)
  rw [if_pos hs, hL] at RU
  have FOc := Lib.hid (fun w => finiteOf_n R (min (shE (unitsV e f a) (unV e f)) (shE (unitsV e f b) (unV e f))) 1 hR (IntWalk.i64_in _ (by omega)) w)
  have sg2 : (1 : Int) = 0 ∨ (1 : Int) = 1 := by omega
  have OC := Lib.hid (fun (w : World) (hT : TW w) => ofTwoRest_fin e f a b 0 1 (-R) (min (shE (unitsV e f a) (unV e f)) (shE (unitsV e f b) (unV e f))) hap hbp (by omega) (by omega) sg2 (by omega) (by omega) (by omega) (by omega) (fun w => by rw [oa, ob]; exact rest_ff 1 ((odV (unitsV e f a)).natAbs : Int) (shE (unitsV e f a) (unV e f)) (b / pw (e + f)) ((odV (unitsV e f b)).natAbs : Int) (shE (unitsV e f b) (unV e f)) _ (fun w => frest_1 ((odV (unitsV e f a)).natAbs : Int) (shE (unitsV e f a) (unV e f)) (b / pw (e + f)) ((odV (unitsV e f b)).natAbs : Int) (shE (unitsV e f b) (unV e f)) (((odV (unitsV e f a)).natAbs : Int) * pw ((shE (unitsV e f a) (unV e f)) - (min (shE (unitsV e f a) (unV e f)) (shE (unitsV e f b) (unV e f))))) (((odV (unitsV e f b)).natAbs : Int) * pw ((shE (unitsV e f b) (unV e f)) - (min (shE (unitsV e f a) (unV e f)) (shE (unitsV e f b) (unV e f))))) (min (shE (unitsV e f a) (unV e f)) (shE (unitsV e f b) (unV e f))) (whV (((odV (unitsV e f a)).natAbs : Int) * pw ((shE (unitsV e f a) (unV e f)) - (min (shE (unitsV e f a) (unV e f)) (shE (unitsV e f b) (unV e f))))) (((odV (unitsV e f b)).natAbs : Int) * pw ((shE (unitsV e f b) (unV e f)) - (min (shE (unitsV e f a) (unV e f)) (shE (unitsV e f b) (unV e f))))) 0 false) ((((odV (unitsV e f a)).natAbs : Int) * pw ((shE (unitsV e f a) (unV e f)) - (min (shE (unitsV e f a) (unV e f)) (shE (unitsV e f b) (unV e f))))) - (((odV (unitsV e f b)).natAbs : Int) * pw ((shE (unitsV e f b) (unV e f)) - (min (shE (unitsV e f a) (unV e f)) (shE (unitsV e f b) (unV e f))))) * (whV (((odV (unitsV e f a)).natAbs : Int) * pw ((shE (unitsV e f a) (unV e f)) - (min (shE (unitsV e f a) (unV e f)) (shE (unitsV e f b) (unV e f))))) (((odV (unitsV e f b)).natAbs : Int) * pw ((shE (unitsV e f b) (unV e f)) - (min (shE (unitsV e f a) (unV e f)) (shE (unitsV e f b) (unV e f))))) 0 false)) R 1 (-R) (min (shE (unitsV e f a) (unV e f)) (shE (unitsV e f b) (unV e f))) (by omega) TG WQc kB kL kR FOc w) w) w hT)
  have RU := Lib.hid RU
  clear oa ob eb nz da d1 d2 p1 p2 p3 p4 A0 A1 B0 B1 few r0 l1 l2 TG WQc kB kL kR FOc sg2 hL ua1 ua2 ua3 ua4 ua5 ub1 ub2 ub3 ub4 ub5 u1 xa
  have HS := Lib.hid hs
  clear hs
  go_enter Tryz.func41, Tryz.ntmps41
  go_wp2_with (go_at_call 64; refine (OC.out _ (hT.ext Ext.auK)).mono ?_; rintro rv w1 ⟨s, rfl, hq, hb⟩; have HQ := Lib.hid hq; clear hq; have ns : w.heap.size < w1.heap.size := hb.ltK; have n0 : w1.cell? ⟨w.heap.size, 0, none⟩ = some (.int .i64 e) := hb.cellK; have n1 : w1.cell? ⟨w.heap.size, 1, none⟩ = some (.int .i64 f) := hb.cellK; (first | (have nx := Ext.trans hx hb; clear hx) | (have nx := Ext.trans (hx.alloc _) hb; clear hx) | (have nx := Ext.trans hx.drew hb; clear hx) | have nx := hb); clear hb; try clear hs; try clear g0; try clear g1; have hx := nx; clear nx; have hs := ns; clear ns; have g0 := n0; clear n0; have g1 := n1; clear n1)
  have hs := HS.out
  go_ret2
  exact ⟨_, rfl, Or.inr (Or.inr (Or.inr ⟨by unfold rqP; omega, kb3, by have := (re_neg (by omega) hR RU.out HQ.out).1; omega, s, by rw [← (re_neg (by omega) hR RU.out HQ.out).2.1]; first | rfl | omega, (re_neg (by omega) hR RU.out HQ.out).2.2⟩)), Ext.auK⟩

set_option maxHeartbeats 1600000 in
theorem iRemainderOf_vf1z (e f a b : Int) (hg : reB e f a b = true) (ka : kindV e f a < 3) (fa : finB e f a = true) (kb : kindV e f b = 1 ∨ kindV e f b = 2) (fb : finB e f b = true) (nb : unitsV e f b ≠ 0) (R : Int) (hs : (a / pw (e + f)) = 1) (hL : -((((odV (unitsV e f a)).natAbs : Int) * pw ((shE (unitsV e f a) (unV e f)) - (min (shE (unitsV e f a) (unV e f)) (shE (unitsV e f b) (unV e f))))) - (((odV (unitsV e f b)).natAbs : Int) * pw ((shE (unitsV e f b) (unV e f)) - (min (shE (unitsV e f a) (unV e f)) (shE (unitsV e f b) (unV e f))))) * (whV (((odV (unitsV e f a)).natAbs : Int) * pw ((shE (unitsV e f a) (unV e f)) - (min (shE (unitsV e f a) (unV e f)) (shE (unitsV e f b) (unV e f))))) (((odV (unitsV e f b)).natAbs : Int) * pw ((shE (unitsV e f b) (unV e f)) - (min (shE (unitsV e f a) (unV e f)) (shE (unitsV e f b) (unV e f))))) 0 false)) = R) (hR : R = 0) (w : World) (hT : TW w) : Calls Tryz.prog 41 #[fmt e f, .int .i64 a, .int .i64 b] w (ARboth (ReD e f a b) w) := by
  obtain ⟨hap, hbp⟩ := re_iff.1 hg
  have hg0 := (pat_iff.1 hap).1
  have sga := sign_01 hap
  obtain ⟨ua1, ua2, ua3, ua4, ua5⟩ := un_small hap
  obtain ⟨ub1, ub2, ub3, ub4, ub5⟩ := un_small hbp
  have u1 := un_bd (pat_iff.1 hap).1
  have xa : (unV e f) ≤ (shE (unitsV e f a) (unV e f)) ∧ (shE (unitsV e f a) (unV e f)) ≤ 41 ∧ (shE (unitsV e f a) (unV e f)) - (unV e f) ≤ 42 := by
    by_cases h : (unitsV e f a) = 0
    · have := ua5 h; omega
    · have := ua4 h; omega
  have kb3 : kindV e f b ≠ 3 := by omega
  have oa := op_fin (e := e) (f := f) (p := a) fa
  have ob := op_fin (e := e) (f := f) (p := b) fb
  rw [hs] at oa
  have eb := ub4 nb
  have nz : 0 < ((odV (unitsV e f b)).natAbs : Int) := by
    rcases Int.lt_or_eq_of_le (show 0 ≤ ((odV (unitsV e f b)).natAbs : Int) by omega) with h | h
    · exact h
    · exact absurd ((od_sign (S := (unitsV e f b)) (by have := units_bd e f b hbp; omega) (by have := units_bd e f b hbp; omega)).2.1 (by omega)) nb
  have hmn : (unV e f) ≤ (min (shE (unitsV e f a) (unV e f)) (shE (unitsV e f b) (unV e f))) := by omega
  have RU := re_units hap hbp nb hmn
  have da : 0 ≤ (shE (unitsV e f a) (unV e f)) - (min (shE (unitsV e f a) (unV e f)) (shE (unitsV e f b) (unV e f))) ∧ (shE (unitsV e f a) (unV e f)) - (min (shE (unitsV e f a) (unV e f)) (shE (unitsV e f b) (unV e f))) ≤ 66 := by omega
  have d1 : 0 ≤ (shE (unitsV e f a) (unV e f)) - (min (shE (unitsV e f a) (unV e f)) (shE (unitsV e f b) (unV e f))) ∧ (shE (unitsV e f a) (unV e f)) - (min (shE (unitsV e f a) (unV e f)) (shE (unitsV e f b) (unV e f))) ≤ 42 := by omega
  have d2 : 0 ≤ (shE (unitsV e f b) (unV e f)) - (min (shE (unitsV e f a) (unV e f)) (shE (unitsV e f b) (unV e f))) ∧ (shE (unitsV e f b) (unV e f)) - (min (shE (unitsV e f a) (unV e f)) (shE (unitsV e f b) (unV e f))) ≤ 42 := by omega
  have p1 := pw_pos ((shE (unitsV e f a) (unV e f)) - (min (shE (unitsV e f a) (unV e f)) (shE (unitsV e f b) (unV e f))))
  have p2 : pw ((shE (unitsV e f a) (unV e f)) - (min (shE (unitsV e f a) (unV e f)) (shE (unitsV e f b) (unV e f)))) ≤ 4398046511104 := pw_le 42 4398046511104 rfl (by omega)
  have p3 := pw_pos ((shE (unitsV e f b) (unV e f)) - (min (shE (unitsV e f a) (unV e f)) (shE (unitsV e f b) (unV e f))))
  have p4 : pw ((shE (unitsV e f b) (unV e f)) - (min (shE (unitsV e f a) (unV e f)) (shE (unitsV e f b) (unV e f)))) ≤ 4398046511104 := pw_le 42 4398046511104 rfl (by omega)
  have A0 : 0 ≤ (((odV (unitsV e f a)).natAbs : Int) * pw ((shE (unitsV e f a) (unV e f)) - (min (shE (unitsV e f a) (unV e f)) (shE (unitsV e f b) (unV e f))))) := Int.mul_nonneg (by omega) (by omega)
  have A1 : (((odV (unitsV e f a)).natAbs : Int) * pw ((shE (unitsV e f a) (unV e f)) - (min (shE (unitsV e f a) (unV e f)) (shE (unitsV e f b) (unV e f))))) ≤ 2048 * 4398046511104 := Int.mul_le_mul (by omega) p2 (by omega) (by omega)
  have B0 : 0 < (((odV (unitsV e f b)).natAbs : Int) * pw ((shE (unitsV e f b) (unV e f)) - (min (shE (unitsV e f a) (unV e f)) (shE (unitsV e f b) (unV e f))))) := Int.mul_pos nz (by omega)
  have B1 : (((odV (unitsV e f b)).natAbs : Int) * pw ((shE (unitsV e f b) (unV e f)) - (min (shE (unitsV e f a) (unV e f)) (shE (unitsV e f b) (unV e f))))) ≤ 2048 * 4398046511104 := Int.mul_le_mul (by omega) p4 (by omega) (by omega)
  have few : (((odV (unitsV e f a)).natAbs : Int) * pw ((shE (unitsV e f a) (unV e f)) - (min (shE (unitsV e f a) (unV e f)) (shE (unitsV e f b) (unV e f))))) % (((odV (unitsV e f b)).natAbs : Int) * pw ((shE (unitsV e f b) (unV e f)) - (min (shE (unitsV e f a) (unV e f)) (shE (unitsV e f b) (unV e f))))) < 16777216 := by
    have r1 := Int.emod_lt_of_pos (((odV (unitsV e f a)).natAbs : Int) * pw ((shE (unitsV e f a) (unV e f)) - (min (shE (unitsV e f a) (unV e f)) (shE (unitsV e f b) (unV e f))))) B0
    have r2 := Int.mul_ediv_add_emod (((odV (unitsV e f a)).natAbs : Int) * pw ((shE (unitsV e f a) (unV e f)) - (min (shE (unitsV e f a) (unV e f)) (shE (unitsV e f b) (unV e f))))) (((odV (unitsV e f b)).natAbs : Int) * pw ((shE (unitsV e f b) (unV e f)) - (min (shE (unitsV e f a) (unV e f)) (shE (unitsV e f b) (unV e f)))))
    have r3 : 0 ≤ (((odV (unitsV e f a)).natAbs : Int) * pw ((shE (unitsV e f a) (unV e f)) - (min (shE (unitsV e f a) (unV e f)) (shE (unitsV e f b) (unV e f))))) / (((odV (unitsV e f b)).natAbs : Int) * pw ((shE (unitsV e f b) (unV e f)) - (min (shE (unitsV e f a) (unV e f)) (shE (unitsV e f b) (unV e f))))) := Int.ediv_nonneg A0 (by omega)
    have r4 : 0 ≤ (((odV (unitsV e f b)).natAbs : Int) * pw ((shE (unitsV e f b) (unV e f)) - (min (shE (unitsV e f a) (unV e f)) (shE (unitsV e f b) (unV e f))))) * ((((odV (unitsV e f a)).natAbs : Int) * pw ((shE (unitsV e f a) (unV e f)) - (min (shE (unitsV e f a) (unV e f)) (shE (unitsV e f b) (unV e f))))) / (((odV (unitsV e f b)).natAbs : Int) * pw ((shE (unitsV e f b) (unV e f)) - (min (shE (unitsV e f a) (unV e f)) (shE (unitsV e f b) (unV e f)))))) := Int.mul_nonneg (by omega) r3
    by_cases h : (shE (unitsV e f b) (unV e f)) ≤ (shE (unitsV e f a) (unV e f))
    · have e0 : (((odV (unitsV e f b)).natAbs : Int) * pw ((shE (unitsV e f b) (unV e f)) - (min (shE (unitsV e f a) (unV e f)) (shE (unitsV e f b) (unV e f))))) = ((odV (unitsV e f b)).natAbs : Int) := by rw [show (shE (unitsV e f b) (unV e f)) - (min (shE (unitsV e f a) (unV e f)) (shE (unitsV e f b) (unV e f))) = 0 by omega, show pw 0 = 1 from rfl, Int.mul_one]
      omega
    · have e0 : (((odV (unitsV e f a)).natAbs : Int) * pw ((shE (unitsV e f a) (unV e f)) - (min (shE (unitsV e f a) (unV e f)) (shE (unitsV e f b) (unV e f))))) = ((odV (unitsV e f a)).natAbs : Int) := by rw [show (shE (unitsV e f a) (unV e f)) - (min (shE (unitsV e f a) (unV e f)) (shE (unitsV e f b) (unV e f))) = 0 by omega, show pw 0 = 1 from rfl, Int.mul_one]
      omega
  have r0 := Int.emod_nonneg (((odV (unitsV e f a)).natAbs : Int) * pw ((shE (unitsV e f a) (unV e f)) - (min (shE (unitsV e f a) (unV e f)) (shE (unitsV e f b) (unV e f))))) (show (((odV (unitsV e f b)).natAbs : Int) * pw ((shE (unitsV e f b) (unV e f)) - (min (shE (unitsV e f a) (unV e f)) (shE (unitsV e f b) (unV e f))))) ≠ 0 by omega)
  obtain ⟨l1, l2⟩ := wh_near (N := (((odV (unitsV e f a)).natAbs : Int) * pw ((shE (unitsV e f a) (unV e f)) - (min (shE (unitsV e f a) (unV e f)) (shE (unitsV e f b) (unV e f)))))) (v := (((odV (unitsV e f b)).natAbs : Int) * pw ((shE (unitsV e f b) (unV e f)) - (min (shE (unitsV e f a) (unV e f)) (shE (unitsV e f b) (unV e f)))))) A0 B0
  have TG := Lib.hid (fun w => together_any 1 ((odV (unitsV e f a)).natAbs : Int) (shE (unitsV e f a) (unV e f)) (b / pw (e + f)) ((odV (unitsV e f b)).natAbs : Int) (shE (unitsV e f b) (unV e f)) _ _ rfl rfl (by omega) (by omega) (by omega) (by omega) (IntWalk.i64_in _ (by omega)) (IntWalk.i64_in _ (by omega)) w)
  have WQc := Lib.hid (fun w => wholeQuotient_any (((odV (unitsV e f a)).natAbs : Int) * pw ((shE (unitsV e f a) (unV e f)) - (min (shE (unitsV e f a) (unV e f)) (shE (unitsV e f b) (unV e f))))) (((odV (unitsV e f b)).natAbs : Int) * pw ((shE (unitsV e f b) (unV e f)) - (min (shE (unitsV e f a) (unV e f)) (shE (unitsV e f b) (unV e f))))) 0 false A0 (by omega) B0 (by omega) (by omega) (by omega) (ok_few r0 few) (lt_few r0 few) (ok_npw (by omega) (by omega) (by omega) (by omega)) w)
  have kB : IntKind.i64.wrap ((((odV (unitsV e f b)).natAbs : Int) * pw ((shE (unitsV e f b) (unV e f)) - (min (shE (unitsV e f a) (unV e f)) (shE (unitsV e f b) (unV e f))))) * (whV (((odV (unitsV e f a)).natAbs : Int) * pw ((shE (unitsV e f a) (unV e f)) - (min (shE (unitsV e f a) (unV e f)) (shE (unitsV e f b) (unV e f))))) (((odV (unitsV e f b)).natAbs : Int) * pw ((shE (unitsV e f b) (unV e f)) - (min (shE (unitsV e f a) (unV e f)) (shE (unitsV e f b) (unV e f))))) 0 false)) = (((odV (unitsV e f b)).natAbs : Int) * pw ((shE (unitsV e f b) (unV e f)) - (min (shE (unitsV e f a) (unV e f)) (shE (unitsV e f b) (unV e f))))) * (whV (((odV (unitsV e f a)).natAbs : Int) * pw ((shE (unitsV e f a) (unV e f)) - (min (shE (unitsV e f a) (unV e f)) (shE (unitsV e f b) (unV e f))))) (((odV (unitsV e f b)).natAbs : Int) * pw ((shE (unitsV e f b) (unV e f)) - (min (shE (unitsV e f a) (unV e f)) (shE (unitsV e f b) (unV e f))))) 0 false) := IntWalk.i64_in _ (by omega)
  have kL : IntKind.i64.wrap ((((odV (unitsV e f a)).natAbs : Int) * pw ((shE (unitsV e f a) (unV e f)) - (min (shE (unitsV e f a) (unV e f)) (shE (unitsV e f b) (unV e f))))) - (((odV (unitsV e f b)).natAbs : Int) * pw ((shE (unitsV e f b) (unV e f)) - (min (shE (unitsV e f a) (unV e f)) (shE (unitsV e f b) (unV e f))))) * (whV (((odV (unitsV e f a)).natAbs : Int) * pw ((shE (unitsV e f a) (unV e f)) - (min (shE (unitsV e f a) (unV e f)) (shE (unitsV e f b) (unV e f))))) (((odV (unitsV e f b)).natAbs : Int) * pw ((shE (unitsV e f b) (unV e f)) - (min (shE (unitsV e f a) (unV e f)) (shE (unitsV e f b) (unV e f))))) 0 false)) = (((odV (unitsV e f a)).natAbs : Int) * pw ((shE (unitsV e f a) (unV e f)) - (min (shE (unitsV e f a) (unV e f)) (shE (unitsV e f b) (unV e f))))) - (((odV (unitsV e f b)).natAbs : Int) * pw ((shE (unitsV e f b) (unV e f)) - (min (shE (unitsV e f a) (unV e f)) (shE (unitsV e f b) (unV e f))))) * (whV (((odV (unitsV e f a)).natAbs : Int) * pw ((shE (unitsV e f a) (unV e f)) - (min (shE (unitsV e f a) (unV e f)) (shE (unitsV e f b) (unV e f))))) (((odV (unitsV e f b)).natAbs : Int) * pw ((shE (unitsV e f b) (unV e f)) - (min (shE (unitsV e f a) (unV e f)) (shE (unitsV e f b) (unV e f))))) 0 false) := IntWalk.i64_in _ (by omega)
  have kR : IntKind.i64.wrap (-((((odV (unitsV e f a)).natAbs : Int) * pw ((shE (unitsV e f a) (unV e f)) - (min (shE (unitsV e f a) (unV e f)) (shE (unitsV e f b) (unV e f))))) - (((odV (unitsV e f b)).natAbs : Int) * pw ((shE (unitsV e f b) (unV e f)) - (min (shE (unitsV e f a) (unV e f)) (shE (unitsV e f b) (unV e f))))) * (whV (((odV (unitsV e f a)).natAbs : Int) * pw ((shE (unitsV e f a) (unV e f)) - (min (shE (unitsV e f a) (unV e f)) (shE (unitsV e f b) (unV e f))))) (((odV (unitsV e f b)).natAbs : Int) * pw ((shE (unitsV e f b) (unV e f)) - (min (shE (unitsV e f a) (unV e f)) (shE (unitsV e f b) (unV e f))))) 0 false))) = R := by rw [← hL]; exact IntWalk.i64_in _ (by omega)
  rw [if_pos hs, hL] at RU
  have FOc := Lib.hid (fun w => finiteOf_z R (min (shE (unitsV e f a) (unV e f)) (shE (unitsV e f b) (unV e f))) 1 hR w)
  have sg2 : (1 : Int) = 0 ∨ (1 : Int) = 1 := by omega
  have OC := Lib.hid (fun (w : World) (hT : TW w) => ofTwoRest_fin e f a b 0 1 0 0 hap hbp (by omega) (by omega) sg2 (by omega) (by omega) (by omega) (by omega) (fun w => by rw [oa, ob]; exact rest_ff 1 ((odV (unitsV e f a)).natAbs : Int) (shE (unitsV e f a) (unV e f)) (b / pw (e + f)) ((odV (unitsV e f b)).natAbs : Int) (shE (unitsV e f b) (unV e f)) _ (fun w => frest_1 ((odV (unitsV e f a)).natAbs : Int) (shE (unitsV e f a) (unV e f)) (b / pw (e + f)) ((odV (unitsV e f b)).natAbs : Int) (shE (unitsV e f b) (unV e f)) (((odV (unitsV e f a)).natAbs : Int) * pw ((shE (unitsV e f a) (unV e f)) - (min (shE (unitsV e f a) (unV e f)) (shE (unitsV e f b) (unV e f))))) (((odV (unitsV e f b)).natAbs : Int) * pw ((shE (unitsV e f b) (unV e f)) - (min (shE (unitsV e f a) (unV e f)) (shE (unitsV e f b) (unV e f))))) (min (shE (unitsV e f a) (unV e f)) (shE (unitsV e f b) (unV e f))) (whV (((odV (unitsV e f a)).natAbs : Int) * pw ((shE (unitsV e f a) (unV e f)) - (min (shE (unitsV e f a) (unV e f)) (shE (unitsV e f b) (unV e f))))) (((odV (unitsV e f b)).natAbs : Int) * pw ((shE (unitsV e f b) (unV e f)) - (min (shE (unitsV e f a) (unV e f)) (shE (unitsV e f b) (unV e f))))) 0 false) ((((odV (unitsV e f a)).natAbs : Int) * pw ((shE (unitsV e f a) (unV e f)) - (min (shE (unitsV e f a) (unV e f)) (shE (unitsV e f b) (unV e f))))) - (((odV (unitsV e f b)).natAbs : Int) * pw ((shE (unitsV e f b) (unV e f)) - (min (shE (unitsV e f a) (unV e f)) (shE (unitsV e f b) (unV e f))))) * (whV (((odV (unitsV e f a)).natAbs : Int) * pw ((shE (unitsV e f a) (unV e f)) - (min (shE (unitsV e f a) (unV e f)) (shE (unitsV e f b) (unV e f))))) (((odV (unitsV e f b)).natAbs : Int) * pw ((shE (unitsV e f b) (unV e f)) - (min (shE (unitsV e f a) (unV e f)) (shE (unitsV e f b) (unV e f))))) 0 false)) R 1 0 0 (by omega) TG WQc kB kL kR FOc w) w) w hT)
  have RU := Lib.hid RU
  clear oa ob eb nz da d1 d2 p1 p2 p3 p4 A0 A1 B0 B1 few r0 l1 l2 TG WQc kB kL kR FOc sg2 hL ua1 ua2 ua3 ua4 ua5 ub1 ub2 ub3 ub4 ub5 u1 xa
  have HS := Lib.hid hs
  clear hs
  go_enter Tryz.func41, Tryz.ntmps41
  go_wp2_with (go_at_call 64; refine (OC.out _ (hT.ext Ext.auK)).mono ?_; rintro rv w1 ⟨s, rfl, hq, hb⟩; obtain rfl := re_zero hg0 rfl hq; clear hq; have ns : w.heap.size < w1.heap.size := hb.ltK; have n0 : w1.cell? ⟨w.heap.size, 0, none⟩ = some (.int .i64 e) := hb.cellK; have n1 : w1.cell? ⟨w.heap.size, 1, none⟩ = some (.int .i64 f) := hb.cellK; (first | (have nx := Ext.trans hx hb; clear hx) | (have nx := Ext.trans (hx.alloc _) hb; clear hx) | (have nx := Ext.trans hx.drew hb; clear hx) | have nx := hb); clear hb; try clear hs; try clear g0; try clear g1; have hx := nx; clear nx; have hs := ns; clear ns; have g0 := n0; clear n0; have g1 := n1; clear n1)
  have hs := HS.out
  go_ret2
  exact ⟨_, rfl, Or.inr (Or.inr (Or.inl ⟨by unfold rqP; omega, kb3, by rw [← RU.out, hR, Int.zero_mul], by rw [hs]; omega⟩)), Ext.auK⟩

set_option maxHeartbeats 1600000 in
theorem iRemainderOf_vf1p (e f a b : Int) (hg : reB e f a b = true) (ka : kindV e f a < 3) (fa : finB e f a = true) (kb : kindV e f b = 1 ∨ kindV e f b = 2) (fb : finB e f b = true) (nb : unitsV e f b ≠ 0) (R : Int) (hs : (a / pw (e + f)) = 1) (hL : -((((odV (unitsV e f a)).natAbs : Int) * pw ((shE (unitsV e f a) (unV e f)) - (min (shE (unitsV e f a) (unV e f)) (shE (unitsV e f b) (unV e f))))) - (((odV (unitsV e f b)).natAbs : Int) * pw ((shE (unitsV e f b) (unV e f)) - (min (shE (unitsV e f a) (unV e f)) (shE (unitsV e f b) (unV e f))))) * (whV (((odV (unitsV e f a)).natAbs : Int) * pw ((shE (unitsV e f a) (unV e f)) - (min (shE (unitsV e f a) (unV e f)) (shE (unitsV e f b) (unV e f))))) (((odV (unitsV e f b)).natAbs : Int) * pw ((shE (unitsV e f b) (unV e f)) - (min (shE (unitsV e f a) (unV e f)) (shE (unitsV e f b) (unV e f))))) 0 false)) = R) (hR : 0 < R) (w : World) (hT : TW w) : Calls Tryz.prog 41 #[fmt e f, .int .i64 a, .int .i64 b] w (ARboth (ReD e f a b) w) := by
  obtain ⟨hap, hbp⟩ := re_iff.1 hg
  have hg0 := (pat_iff.1 hap).1
  have sga := sign_01 hap
  obtain ⟨ua1, ua2, ua3, ua4, ua5⟩ := un_small hap
  obtain ⟨ub1, ub2, ub3, ub4, ub5⟩ := un_small hbp
  have u1 := un_bd (pat_iff.1 hap).1
  have xa : (unV e f) ≤ (shE (unitsV e f a) (unV e f)) ∧ (shE (unitsV e f a) (unV e f)) ≤ 41 ∧ (shE (unitsV e f a) (unV e f)) - (unV e f) ≤ 42 := by
    by_cases h : (unitsV e f a) = 0
    · have := ua5 h; omega
    · have := ua4 h; omega
  have kb3 : kindV e f b ≠ 3 := by omega
  have oa := op_fin (e := e) (f := f) (p := a) fa
  have ob := op_fin (e := e) (f := f) (p := b) fb
  rw [hs] at oa
  have eb := ub4 nb
  have nz : 0 < ((odV (unitsV e f b)).natAbs : Int) := by
    rcases Int.lt_or_eq_of_le (show 0 ≤ ((odV (unitsV e f b)).natAbs : Int) by omega) with h | h
    · exact h
    · exact absurd ((od_sign (S := (unitsV e f b)) (by have := units_bd e f b hbp; omega) (by have := units_bd e f b hbp; omega)).2.1 (by omega)) nb
  have hmn : (unV e f) ≤ (min (shE (unitsV e f a) (unV e f)) (shE (unitsV e f b) (unV e f))) := by omega
  have RU := re_units hap hbp nb hmn
  have da : 0 ≤ (shE (unitsV e f a) (unV e f)) - (min (shE (unitsV e f a) (unV e f)) (shE (unitsV e f b) (unV e f))) ∧ (shE (unitsV e f a) (unV e f)) - (min (shE (unitsV e f a) (unV e f)) (shE (unitsV e f b) (unV e f))) ≤ 66 := by omega
  have d1 : 0 ≤ (shE (unitsV e f a) (unV e f)) - (min (shE (unitsV e f a) (unV e f)) (shE (unitsV e f b) (unV e f))) ∧ (shE (unitsV e f a) (unV e f)) - (min (shE (unitsV e f a) (unV e f)) (shE (unitsV e f b) (unV e f))) ≤ 42 := by omega
  have d2 : 0 ≤ (shE (unitsV e f b) (unV e f)) - (min (shE (unitsV e f a) (unV e f)) (shE (unitsV e f b) (unV e f))) ∧ (shE (unitsV e f b) (unV e f)) - (min (shE (unitsV e f a) (unV e f)) (shE (unitsV e f b) (unV e f))) ≤ 42 := by omega
  have p1 := pw_pos ((shE (unitsV e f a) (unV e f)) - (min (shE (unitsV e f a) (unV e f)) (shE (unitsV e f b) (unV e f))))
  have p2 : pw ((shE (unitsV e f a) (unV e f)) - (min (shE (unitsV e f a) (unV e f)) (shE (unitsV e f b) (unV e f)))) ≤ 4398046511104 := pw_le 42 4398046511104 rfl (by omega)
  have p3 := pw_pos ((shE (unitsV e f b) (unV e f)) - (min (shE (unitsV e f a) (unV e f)) (shE (unitsV e f b) (unV e f))))
  have p4 : pw ((shE (unitsV e f b) (unV e f)) - (min (shE (unitsV e f a) (unV e f)) (shE (unitsV e f b) (unV e f)))) ≤ 4398046511104 := pw_le 42 4398046511104 rfl (by omega)
  have A0 : 0 ≤ (((odV (unitsV e f a)).natAbs : Int) * pw ((shE (unitsV e f a) (unV e f)) - (min (shE (unitsV e f a) (unV e f)) (shE (unitsV e f b) (unV e f))))) := Int.mul_nonneg (by omega) (by omega)
  have A1 : (((odV (unitsV e f a)).natAbs : Int) * pw ((shE (unitsV e f a) (unV e f)) - (min (shE (unitsV e f a) (unV e f)) (shE (unitsV e f b) (unV e f))))) ≤ 2048 * 4398046511104 := Int.mul_le_mul (by omega) p2 (by omega) (by omega)
  have B0 : 0 < (((odV (unitsV e f b)).natAbs : Int) * pw ((shE (unitsV e f b) (unV e f)) - (min (shE (unitsV e f a) (unV e f)) (shE (unitsV e f b) (unV e f))))) := Int.mul_pos nz (by omega)
  have B1 : (((odV (unitsV e f b)).natAbs : Int) * pw ((shE (unitsV e f b) (unV e f)) - (min (shE (unitsV e f a) (unV e f)) (shE (unitsV e f b) (unV e f))))) ≤ 2048 * 4398046511104 := Int.mul_le_mul (by omega) p4 (by omega) (by omega)
  have few : (((odV (unitsV e f a)).natAbs : Int) * pw ((shE (unitsV e f a) (unV e f)) - (min (shE (unitsV e f a) (unV e f)) (shE (unitsV e f b) (unV e f))))) % (((odV (unitsV e f b)).natAbs : Int) * pw ((shE (unitsV e f b) (unV e f)) - (min (shE (unitsV e f a) (unV e f)) (shE (unitsV e f b) (unV e f))))) < 16777216 := by
    have r1 := Int.emod_lt_of_pos (((odV (unitsV e f a)).natAbs : Int) * pw ((shE (unitsV e f a) (unV e f)) - (min (shE (unitsV e f a) (unV e f)) (shE (unitsV e f b) (unV e f))))) B0
    have r2 := Int.mul_ediv_add_emod (((odV (unitsV e f a)).natAbs : Int) * pw ((shE (unitsV e f a) (unV e f)) - (min (shE (unitsV e f a) (unV e f)) (shE (unitsV e f b) (unV e f))))) (((odV (unitsV e f b)).natAbs : Int) * pw ((shE (unitsV e f b) (unV e f)) - (min (shE (unitsV e f a) (unV e f)) (shE (unitsV e f b) (unV e f)))))
    have r3 : 0 ≤ (((odV (unitsV e f a)).natAbs : Int) * pw ((shE (unitsV e f a) (unV e f)) - (min (shE (unitsV e f a) (unV e f)) (shE (unitsV e f b) (unV e f))))) / (((odV (unitsV e f b)).natAbs : Int) * pw ((shE (unitsV e f b) (unV e f)) - (min (shE (unitsV e f a) (unV e f)) (shE (unitsV e f b) (unV e f))))) := Int.ediv_nonneg A0 (by omega)
    have r4 : 0 ≤ (((odV (unitsV e f b)).natAbs : Int) * pw ((shE (unitsV e f b) (unV e f)) - (min (shE (unitsV e f a) (unV e f)) (shE (unitsV e f b) (unV e f))))) * ((((odV (unitsV e f a)).natAbs : Int) * pw ((shE (unitsV e f a) (unV e f)) - (min (shE (unitsV e f a) (unV e f)) (shE (unitsV e f b) (unV e f))))) / (((odV (unitsV e f b)).natAbs : Int) * pw ((shE (unitsV e f b) (unV e f)) - (min (shE (unitsV e f a) (unV e f)) (shE (unitsV e f b) (unV e f)))))) := Int.mul_nonneg (by omega) r3
    by_cases h : (shE (unitsV e f b) (unV e f)) ≤ (shE (unitsV e f a) (unV e f))
    · have e0 : (((odV (unitsV e f b)).natAbs : Int) * pw ((shE (unitsV e f b) (unV e f)) - (min (shE (unitsV e f a) (unV e f)) (shE (unitsV e f b) (unV e f))))) = ((odV (unitsV e f b)).natAbs : Int) := by rw [show (shE (unitsV e f b) (unV e f)) - (min (shE (unitsV e f a) (unV e f)) (shE (unitsV e f b) (unV e f))) = 0 by omega, show pw 0 = 1 from rfl, Int.mul_one]
      omega
    · have e0 : (((odV (unitsV e f a)).natAbs : Int) * pw ((shE (unitsV e f a) (unV e f)) - (min (shE (unitsV e f a) (unV e f)) (shE (unitsV e f b) (unV e f))))) = ((odV (unitsV e f a)).natAbs : Int) := by rw [show (shE (unitsV e f a) (unV e f)) - (min (shE (unitsV e f a) (unV e f)) (shE (unitsV e f b) (unV e f))) = 0 by omega, show pw 0 = 1 from rfl, Int.mul_one]
      omega
  have r0 := Int.emod_nonneg (((odV (unitsV e f a)).natAbs : Int) * pw ((shE (unitsV e f a) (unV e f)) - (min (shE (unitsV e f a) (unV e f)) (shE (unitsV e f b) (unV e f))))) (show (((odV (unitsV e f b)).natAbs : Int) * pw ((shE (unitsV e f b) (unV e f)) - (min (shE (unitsV e f a) (unV e f)) (shE (unitsV e f b) (unV e f))))) ≠ 0 by omega)
  obtain ⟨l1, l2⟩ := wh_near (N := (((odV (unitsV e f a)).natAbs : Int) * pw ((shE (unitsV e f a) (unV e f)) - (min (shE (unitsV e f a) (unV e f)) (shE (unitsV e f b) (unV e f)))))) (v := (((odV (unitsV e f b)).natAbs : Int) * pw ((shE (unitsV e f b) (unV e f)) - (min (shE (unitsV e f a) (unV e f)) (shE (unitsV e f b) (unV e f)))))) A0 B0
  have TG := Lib.hid (fun w => together_any 1 ((odV (unitsV e f a)).natAbs : Int) (shE (unitsV e f a) (unV e f)) (b / pw (e + f)) ((odV (unitsV e f b)).natAbs : Int) (shE (unitsV e f b) (unV e f)) _ _ rfl rfl (by omega) (by omega) (by omega) (by omega) (IntWalk.i64_in _ (by omega)) (IntWalk.i64_in _ (by omega)) w)
  have WQc := Lib.hid (fun w => wholeQuotient_any (((odV (unitsV e f a)).natAbs : Int) * pw ((shE (unitsV e f a) (unV e f)) - (min (shE (unitsV e f a) (unV e f)) (shE (unitsV e f b) (unV e f))))) (((odV (unitsV e f b)).natAbs : Int) * pw ((shE (unitsV e f b) (unV e f)) - (min (shE (unitsV e f a) (unV e f)) (shE (unitsV e f b) (unV e f))))) 0 false A0 (by omega) B0 (by omega) (by omega) (by omega) (ok_few r0 few) (lt_few r0 few) (ok_npw (by omega) (by omega) (by omega) (by omega)) w)
  have kB : IntKind.i64.wrap ((((odV (unitsV e f b)).natAbs : Int) * pw ((shE (unitsV e f b) (unV e f)) - (min (shE (unitsV e f a) (unV e f)) (shE (unitsV e f b) (unV e f))))) * (whV (((odV (unitsV e f a)).natAbs : Int) * pw ((shE (unitsV e f a) (unV e f)) - (min (shE (unitsV e f a) (unV e f)) (shE (unitsV e f b) (unV e f))))) (((odV (unitsV e f b)).natAbs : Int) * pw ((shE (unitsV e f b) (unV e f)) - (min (shE (unitsV e f a) (unV e f)) (shE (unitsV e f b) (unV e f))))) 0 false)) = (((odV (unitsV e f b)).natAbs : Int) * pw ((shE (unitsV e f b) (unV e f)) - (min (shE (unitsV e f a) (unV e f)) (shE (unitsV e f b) (unV e f))))) * (whV (((odV (unitsV e f a)).natAbs : Int) * pw ((shE (unitsV e f a) (unV e f)) - (min (shE (unitsV e f a) (unV e f)) (shE (unitsV e f b) (unV e f))))) (((odV (unitsV e f b)).natAbs : Int) * pw ((shE (unitsV e f b) (unV e f)) - (min (shE (unitsV e f a) (unV e f)) (shE (unitsV e f b) (unV e f))))) 0 false) := IntWalk.i64_in _ (by omega)
  have kL : IntKind.i64.wrap ((((odV (unitsV e f a)).natAbs : Int) * pw ((shE (unitsV e f a) (unV e f)) - (min (shE (unitsV e f a) (unV e f)) (shE (unitsV e f b) (unV e f))))) - (((odV (unitsV e f b)).natAbs : Int) * pw ((shE (unitsV e f b) (unV e f)) - (min (shE (unitsV e f a) (unV e f)) (shE (unitsV e f b) (unV e f))))) * (whV (((odV (unitsV e f a)).natAbs : Int) * pw ((shE (unitsV e f a) (unV e f)) - (min (shE (unitsV e f a) (unV e f)) (shE (unitsV e f b) (unV e f))))) (((odV (unitsV e f b)).natAbs : Int) * pw ((shE (unitsV e f b) (unV e f)) - (min (shE (unitsV e f a) (unV e f)) (shE (unitsV e f b) (unV e f))))) 0 false)) = (((odV (unitsV e f a)).natAbs : Int) * pw ((shE (unitsV e f a) (unV e f)) - (min (shE (unitsV e f a) (unV e f)) (shE (unitsV e f b) (unV e f))))) - (((odV (unitsV e f b)).natAbs : Int) * pw ((shE (unitsV e f b) (unV e f)) - (min (shE (unitsV e f a) (unV e f)) (shE (unitsV e f b) (unV e f))))) * (whV (((odV (unitsV e f a)).natAbs : Int) * pw ((shE (unitsV e f a) (unV e f)) - (min (shE (unitsV e f a) (unV e f)) (shE (unitsV e f b) (unV e f))))) (((odV (unitsV e f b)).natAbs : Int) * pw ((shE (unitsV e f b) (unV e f)) - (min (shE (unitsV e f a) (unV e f)) (shE (unitsV e f b) (unV e f))))) 0 false) := IntWalk.i64_in _ (by omega)
  have kR : IntKind.i64.wrap (-((((odV (unitsV e f a)).natAbs : Int) * pw ((shE (unitsV e f a) (unV e f)) - (min (shE (unitsV e f a) (unV e f)) (shE (unitsV e f b) (unV e f))))) - (((odV (unitsV e f b)).natAbs : Int) * pw ((shE (unitsV e f b) (unV e f)) - (min (shE (unitsV e f a) (unV e f)) (shE (unitsV e f b) (unV e f))))) * (whV (((odV (unitsV e f a)).natAbs : Int) * pw ((shE (unitsV e f a) (unV e f)) - (min (shE (unitsV e f a) (unV e f)) (shE (unitsV e f b) (unV e f))))) (((odV (unitsV e f b)).natAbs : Int) * pw ((shE (unitsV e f b) (unV e f)) - (min (shE (unitsV e f a) (unV e f)) (shE (unitsV e f b) (unV e f))))) 0 false))) = R := by rw [← hL]; exact IntWalk.i64_in _ (by omega)
  rw [if_pos hs, hL] at RU
  have FOc := Lib.hid (fun w => finiteOf_p R (min (shE (unitsV e f a) (unV e f)) (shE (unitsV e f b) (unV e f))) 1 hR w)
  have sg2 : (0 : Int) = 0 ∨ (0 : Int) = 1 := by omega
  have OC := Lib.hid (fun (w : World) (hT : TW w) => ofTwoRest_fin e f a b 0 0 R (min (shE (unitsV e f a) (unV e f)) (shE (unitsV e f b) (unV e f))) hap hbp (by omega) (by omega) sg2 (by omega) (by omega) (by omega) (by omega) (fun w => by rw [oa, ob]; exact rest_ff 1 ((odV (unitsV e f a)).natAbs : Int) (shE (unitsV e f a) (unV e f)) (b / pw (e + f)) ((odV (unitsV e f b)).natAbs : Int) (shE (unitsV e f b) (unV e f)) _ (fun w => frest_1 ((odV (unitsV e f a)).natAbs : Int) (shE (unitsV e f a) (unV e f)) (b / pw (e + f)) ((odV (unitsV e f b)).natAbs : Int) (shE (unitsV e f b) (unV e f)) (((odV (unitsV e f a)).natAbs : Int) * pw ((shE (unitsV e f a) (unV e f)) - (min (shE (unitsV e f a) (unV e f)) (shE (unitsV e f b) (unV e f))))) (((odV (unitsV e f b)).natAbs : Int) * pw ((shE (unitsV e f b) (unV e f)) - (min (shE (unitsV e f a) (unV e f)) (shE (unitsV e f b) (unV e f))))) (min (shE (unitsV e f a) (unV e f)) (shE (unitsV e f b) (unV e f))) (whV (((odV (unitsV e f a)).natAbs : Int) * pw ((shE (unitsV e f a) (unV e f)) - (min (shE (unitsV e f a) (unV e f)) (shE (unitsV e f b) (unV e f))))) (((odV (unitsV e f b)).natAbs : Int) * pw ((shE (unitsV e f b) (unV e f)) - (min (shE (unitsV e f a) (unV e f)) (shE (unitsV e f b) (unV e f))))) 0 false) ((((odV (unitsV e f a)).natAbs : Int) * pw ((shE (unitsV e f a) (unV e f)) - (min (shE (unitsV e f a) (unV e f)) (shE (unitsV e f b) (unV e f))))) - (((odV (unitsV e f b)).natAbs : Int) * pw ((shE (unitsV e f b) (unV e f)) - (min (shE (unitsV e f a) (unV e f)) (shE (unitsV e f b) (unV e f))))) * (whV (((odV (unitsV e f a)).natAbs : Int) * pw ((shE (unitsV e f a) (unV e f)) - (min (shE (unitsV e f a) (unV e f)) (shE (unitsV e f b) (unV e f))))) (((odV (unitsV e f b)).natAbs : Int) * pw ((shE (unitsV e f b) (unV e f)) - (min (shE (unitsV e f a) (unV e f)) (shE (unitsV e f b) (unV e f))))) 0 false)) R 0 R (min (shE (unitsV e f a) (unV e f)) (shE (unitsV e f b) (unV e f))) (by omega) TG WQc kB kL kR FOc w) w) w hT)
  have RU := Lib.hid RU
  clear oa ob eb nz da d1 d2 p1 p2 p3 p4 A0 A1 B0 B1 few r0 l1 l2 TG WQc kB kL kR FOc sg2 hL ua1 ua2 ua3 ua4 ua5 ub1 ub2 ub3 ub4 ub5 u1 xa
  have HS := Lib.hid hs
  clear hs
  go_enter Tryz.func41, Tryz.ntmps41
  go_wp2_with (go_at_call 64; refine (OC.out _ (hT.ext Ext.auK)).mono ?_; rintro rv w1 ⟨s, rfl, hq, hb⟩; have HQ := Lib.hid hq; clear hq; have ns : w.heap.size < w1.heap.size := hb.ltK; have n0 : w1.cell? ⟨w.heap.size, 0, none⟩ = some (.int .i64 e) := hb.cellK; have n1 : w1.cell? ⟨w.heap.size, 1, none⟩ = some (.int .i64 f) := hb.cellK; (first | (have nx := Ext.trans hx hb; clear hx) | (have nx := Ext.trans (hx.alloc _) hb; clear hx) | (have nx := Ext.trans hx.drew hb; clear hx) | have nx := hb); clear hb; try clear hs; try clear g0; try clear g1; have hx := nx; clear nx; have hs := ns; clear ns; have g0 := n0; clear n0; have g1 := n1; clear n1)
  have hs := HS.out
  go_ret2
  exact ⟨_, rfl, Or.inr (Or.inr (Or.inr ⟨by unfold rqP; omega, kb3, by have := (re_pos (by omega) hR RU.out HQ.out).1; omega, s, by rw [← (re_pos (by omega) hR RU.out HQ.out).2.1]; first | rfl | omega, (re_pos (by omega) hR RU.out HQ.out).2.2⟩)), Ext.auK⟩

theorem iRemainderOf_vf (e f a b : Int) (hg : reB e f a b = true) (ka : kindV e f a < 3) (fa : finB e f a = true) (kb : kindV e f b = 1 ∨ kindV e f b = 2) (fb : finB e f b = true) (nb : unitsV e f b ≠ 0) (w : World) (hT : TW w) : Calls Tryz.prog 41 #[fmt e f, .int .i64 a, .int .i64 b] w (ARboth (ReD e f a b) w) := by
  rcases sign_01 (re_iff.1 hg).1 with hs | hs
  · rcases Int.lt_trichotomy ((((odV (unitsV e f a)).natAbs : Int) * pw ((shE (unitsV e f a) (unV e f)) - (min (shE (unitsV e f a) (unV e f)) (shE (unitsV e f b) (unV e f))))) - (((odV (unitsV e f b)).natAbs : Int) * pw ((shE (unitsV e f b) (unV e f)) - (min (shE (unitsV e f a) (unV e f)) (shE (unitsV e f b) (unV e f))))) * (whV (((odV (unitsV e f a)).natAbs : Int) * pw ((shE (unitsV e f a) (unV e f)) - (min (shE (unitsV e f a) (unV e f)) (shE (unitsV e f b) (unV e f))))) (((odV (unitsV e f b)).natAbs : Int) * pw ((shE (unitsV e f b) (unV e f)) - (min (shE (unitsV e f a) (unV e f)) (shE (unitsV e f b) (unV e f))))) 0 false)) 0 with h | h | h
    · exact iRemainderOf_vf0n e f a b hg ka fa kb fb nb _ hs rfl h w hT
    · exact iRemainderOf_vf0z e f a b hg ka fa kb fb nb _ hs rfl h w hT
    · exact iRemainderOf_vf0p e f a b hg ka fa kb fb nb _ hs rfl h w hT
  · rcases Int.lt_trichotomy (-((((odV (unitsV e f a)).natAbs : Int) * pw ((shE (unitsV e f a) (unV e f)) - (min (shE (unitsV e f a) (unV e f)) (shE (unitsV e f b) (unV e f))))) - (((odV (unitsV e f b)).natAbs : Int) * pw ((shE (unitsV e f b) (unV e f)) - (min (shE (unitsV e f a) (unV e f)) (shE (unitsV e f b) (unV e f))))) * (whV (((odV (unitsV e f a)).natAbs : Int) * pw ((shE (unitsV e f a) (unV e f)) - (min (shE (unitsV e f a) (unV e f)) (shE (unitsV e f b) (unV e f))))) (((odV (unitsV e f b)).natAbs : Int) * pw ((shE (unitsV e f b) (unV e f)) - (min (shE (unitsV e f a) (unV e f)) (shE (unitsV e f b) (unV e f))))) 0 false))) 0 with h | h | h
    · exact iRemainderOf_vf1n e f a b hg ka fa kb fb nb _ hs rfl h w hT
    · exact iRemainderOf_vf1z e f a b hg ka fa kb fb nb _ hs rfl h w hT
    · exact iRemainderOf_vf1p e f a b hg ka fa kb fb nb _ hs rfl h w hT

theorem iRemainderOf_yes (e f a b : Int) (hg : reB e f a b = true) (w : World) (hT : TW w) : Calls Tryz.prog 41 #[fmt e f, .int .i64 a, .int .i64 b] w (ARboth (ReD e f a b) w) := by
  obtain ⟨hap, hbp⟩ := re_iff.1 hg
  rcases kind_parts hap with ⟨ka, fa, na⟩ | ⟨ka, fa, na⟩ | ⟨ka, fa, na⟩ | ⟨ka, fa, na⟩
  · rcases kind_parts hbp with ⟨kb, fb, nb⟩ | ⟨kb, fb, nb⟩ | ⟨kb, fb, nb⟩ | ⟨kb, fb, nb⟩
    · exact iRemainderOf_xx e f a b hg ka fa na kb fb nb w hT
    · exact iRemainderOf_xi e f a b hg ka fa na kb fb nb w hT
    · exact iRemainderOf_xv e f a b hg ka fa na (by omega) fb w hT
    · exact iRemainderOf_xv e f a b hg ka fa na (by omega) fb w hT
  · rcases kind_parts hbp with ⟨kb, fb, nb⟩ | ⟨kb, fb, nb⟩ | ⟨kb, fb, nb⟩ | ⟨kb, fb, nb⟩
    · exact iRemainderOf_ix e f a b hg ka fa na kb fb nb w hT
    · exact iRemainderOf_ii e f a b hg ka fa na kb fb nb w hT
    · exact iRemainderOf_iv e f a b hg ka fa na (by omega) fb w hT
    · exact iRemainderOf_iv e f a b hg ka fa na (by omega) fb w hT
  · rcases kind_parts hbp with ⟨kb, fb, nb⟩ | ⟨kb, fb, nb⟩ | ⟨kb, fb, nb⟩ | ⟨kb, fb, nb⟩
    · exact iRemainderOf_vx e f a b hg (by omega) fa kb fb nb w hT
    · exact iRemainderOf_vi e f a b hg (by omega) fa kb fb nb w hT
    · exact iRemainderOf_vz e f a b hg (by omega) fa kb fb nb w hT
    · exact iRemainderOf_vf e f a b hg (by omega) fa kb fb nb w hT
  · rcases kind_parts hbp with ⟨kb, fb, nb⟩ | ⟨kb, fb, nb⟩ | ⟨kb, fb, nb⟩ | ⟨kb, fb, nb⟩
    · exact iRemainderOf_vx e f a b hg (by omega) fa kb fb nb w hT
    · exact iRemainderOf_vi e f a b hg (by omega) fa kb fb nb w hT
    · exact iRemainderOf_vz e f a b hg (by omega) fa kb fb nb w hT
    · exact iRemainderOf_vf e f a b hg (by omega) fa kb fb nb w hT
end Go.Proofs.YtfgbndjhaiigbaaGreatDoor

namespace Go.Proofs.YtfgbndjhaiigbaaGreatDoor
open Go Go.RowKit
set_option linter.unusedSimpArgs false
set_option linter.unusedVariables false
set_option maxRecDepth 100000

attribute [local go_sem] ta_finite_finite ta_finite_infinite ta_finite_noNumber ta_infinite_finite ta_infinite_infinite ta_infinite_noNumber ta_noNumber_finite ta_noNumber_infinite ta_noNumber_noNumber

set_option maxHeartbeats 3200000 in
theorem ofFinite_inf (e f a mode : Int) (fv : Value) (hap : patB e f a = true) (m0 : 0 ≤ mode) (m1 : mode ≤ 5) (fa : finB e f a = false) (na : numB e f a = true) (w : World) (hT : TW w) :
    Calls Tryz.prog 90 #[fmt e f, .int .i64 a, .int .i64 mode, fv] w fun rv w' => rv = .returned (.tuple #[.int .i64 ((a / pw (e + f)) * pw (e + f) + (pw e - 1) * pw f), .bool true]) ∧ Ext w w' := by
  have hg := (pat_iff.1 hap).1
  have sga := sign_01 hap
  have hmo : moB mode = true := mo_iff.2 ⟨m0, m1⟩
  have OA := Lib.hid (op_inf fa na)
  go_enter Tryz.func90, Tryz.ntmps90
  go_wp2_with (go_at_call 73; (with_reducible refine (operandsOf1 e f mode a (w.heap.size + 1) hmo hap _ (hT.ext Ext.auK) (by first | with_reducible assumption | (simp; done) | (simp [go_sem]; done)) (by simp; try omega)).mono ?_); rintro rv w1 ⟨v, rfl, how, hb⟩; obtain ⟨gl, cap, rfl, hg1, hg2⟩ := how.form (by omega); have c0 := how.cellAt 0 (by omega); simp only [List.getElem?_cons_zero] at c0; rw [OA.out] at c0; clear how; have ns : w.heap.size < w1.heap.size := hb.lt (by first | (simp; done) | (simp; omega)); have g0 : w1.cell? ⟨w.heap.size, 0, none⟩ = some (.int .i64 e) := (hb.cells _ _ (by first | (simp; done) | (simp; omega))).trans (by first | (simp; done) | (simp [go_sem, *]; done)); have g1 : w1.cell? ⟨w.heap.size, 1, none⟩ = some (.int .i64 f) := (hb.cells _ _ (by first | (simp; done) | (simp; omega))).trans (by first | (simp; done) | (simp [go_sem, *]; done)); have hx : Ext w w1 := Ext.trans Ext.auK hb; clear hb)
  have hs : max w.heap.size gl < w1.heap.size := by omega
  go_wp2_with (first | (go_at_call 223; refine (infRounded_any e f (a / pw (e + f)) mode hg sga _).mono ?_; rintro rv w1 ⟨rfl, hb⟩; have ns : max w.heap.size gl < w1.heap.size := hb.ltK; have n0 : w1.cell? ⟨w.heap.size, 0, none⟩ = some (.int .i64 e) := hb.cellK; have n1 : w1.cell? ⟨w.heap.size, 1, none⟩ = some (.int .i64 f) := hb.cellK; have n2 : w1.cell? ⟨gl, 0, none⟩ = some ((.iface 104 (.agg #[.int .i64 (a / pw (e + f))]))) := hb.cellK; (first | (have nx := Ext.trans hx hb; clear hx) | (have nx := Ext.trans (hx.alloc _) hb; clear hx) | (have nx := Ext.trans hx.drew hb; clear hx) | have nx := hb); clear hb; try clear hs; try clear g0; try clear g1; try clear g2; have hx := nx; clear nx; have hs := ns; clear ns; have g0 := n0; clear n0; have g1 := n1; clear n1; have g2 := n2; clear n2))
  try (go_region_held3 (fun w' => w'.cell? ⟨w.heap.size, 0, none⟩ = some (.int .i64 e) ∧ w'.cell? ⟨w.heap.size, 1, none⟩ = some (.int .i64 f) ∧ w'.cell? ⟨gl, 0, none⟩ = some ((.iface 104 (.agg #[.int .i64 (a / pw (e + f))]))) ∧ max w.heap.size gl < w'.heap.size) ((refine ⟨?_, ?_, ?_, ?_⟩ <;> first | with_reducible assumption | ((rw [cell_setRow_far _ _ _ _ _ (by omega)]); with_reducible assumption) | ((rw [setRow_size]); with_reducible assumption) | ((repeat rw [World.cell?_setCell_far _ _ _ _ (by simp)]); with_reducible assumption) | (simp; done) | (simp [World.setCell]; first | done | omega) | (simp [go_sem, World.cell?_alloc_past, World.cell?_setCell_far, *]; done))) ((first | (go_at_call 223; refine (infRounded_any e f (a / pw (e + f)) mode hg sga _).mono ?_; rintro rv w1 ⟨rfl, hb⟩; have ns : max w.heap.size gl < w1.heap.size := hb.ltK; have n0 : w1.cell? ⟨w.heap.size, 0, none⟩ = some (.int .i64 e) := hb.cellK; have n1 : w1.cell? ⟨w.heap.size, 1, none⟩ = some (.int .i64 f) := hb.cellK; have n2 : w1.cell? ⟨gl, 0, none⟩ = some ((.iface 104 (.agg #[.int .i64 (a / pw (e + f))]))) := hb.cellK; (first | (have nx := Ext.trans hx hb; clear hx) | (have nx := Ext.trans (hx.alloc _) hb; clear hx) | (have nx := Ext.trans hx.drew hb; clear hx) | have nx := hb); clear hb; try clear hs; try clear g0; try clear g1; try clear g2; have hx := nx; clear nx; have hs := ns; clear ns; have g0 := n0; clear n0; have g1 := n1; clear n1; have g2 := n2; clear n2))))
  try go_wp2_with (first | (go_at_call 223; refine (infRounded_any e f (a / pw (e + f)) mode hg sga _).mono ?_; rintro rv w1 ⟨rfl, hb⟩; have ns : max w.heap.size gl < w1.heap.size := hb.ltK; have n0 : w1.cell? ⟨w.heap.size, 0, none⟩ = some (.int .i64 e) := hb.cellK; have n1 : w1.cell? ⟨w.heap.size, 1, none⟩ = some (.int .i64 f) := hb.cellK; have n2 : w1.cell? ⟨gl, 0, none⟩ = some ((.iface 104 (.agg #[.int .i64 (a / pw (e + f))]))) := hb.cellK; (first | (have nx := Ext.trans hx hb; clear hx) | (have nx := Ext.trans (hx.alloc _) hb; clear hx) | (have nx := Ext.trans hx.drew hb; clear hx) | have nx := hb); clear hb; try clear hs; try clear g0; try clear g1; try clear g2; have hx := nx; clear nx; have hs := ns; clear ns; have g0 := n0; clear n0; have g1 := n1; clear n1; have g2 := n2; clear n2))
  try (go_region_held3 (fun w' => w'.cell? ⟨w.heap.size, 0, none⟩ = some (.int .i64 e) ∧ w'.cell? ⟨w.heap.size, 1, none⟩ = some (.int .i64 f) ∧ w'.cell? ⟨gl, 0, none⟩ = some ((.iface 104 (.agg #[.int .i64 (a / pw (e + f))]))) ∧ max w.heap.size gl < w'.heap.size) ((refine ⟨?_, ?_, ?_, ?_⟩ <;> first | with_reducible assumption | ((rw [cell_setRow_far _ _ _ _ _ (by omega)]); with_reducible assumption) | ((rw [setRow_size]); with_reducible assumption) | ((repeat rw [World.cell?_setCell_far _ _ _ _ (by simp)]); with_reducible assumption) | (simp; done) | (simp [World.setCell]; first | done | omega) | (simp [go_sem, World.cell?_alloc_past, World.cell?_setCell_far, *]; done))) ((first | (go_at_call 223; refine (infRounded_any e f (a / pw (e + f)) mode hg sga _).mono ?_; rintro rv w1 ⟨rfl, hb⟩; have ns : max w.heap.size gl < w1.heap.size := hb.ltK; have n0 : w1.cell? ⟨w.heap.size, 0, none⟩ = some (.int .i64 e) := hb.cellK; have n1 : w1.cell? ⟨w.heap.size, 1, none⟩ = some (.int .i64 f) := hb.cellK; have n2 : w1.cell? ⟨gl, 0, none⟩ = some ((.iface 104 (.agg #[.int .i64 (a / pw (e + f))]))) := hb.cellK; (first | (have nx := Ext.trans hx hb; clear hx) | (have nx := Ext.trans (hx.alloc _) hb; clear hx) | (have nx := Ext.trans hx.drew hb; clear hx) | have nx := hb); clear hb; try clear hs; try clear g0; try clear g1; try clear g2; have hx := nx; clear nx; have hs := ns; clear ns; have g0 := n0; clear n0; have g1 := n1; clear n1; have g2 := n2; clear n2))))
  try go_wp2_with (first | (go_at_call 223; refine (infRounded_any e f (a / pw (e + f)) mode hg sga _).mono ?_; rintro rv w1 ⟨rfl, hb⟩; have ns : max w.heap.size gl < w1.heap.size := hb.ltK; have n0 : w1.cell? ⟨w.heap.size, 0, none⟩ = some (.int .i64 e) := hb.cellK; have n1 : w1.cell? ⟨w.heap.size, 1, none⟩ = some (.int .i64 f) := hb.cellK; have n2 : w1.cell? ⟨gl, 0, none⟩ = some ((.iface 104 (.agg #[.int .i64 (a / pw (e + f))]))) := hb.cellK; (first | (have nx := Ext.trans hx hb; clear hx) | (have nx := Ext.trans (hx.alloc _) hb; clear hx) | (have nx := Ext.trans hx.drew hb; clear hx) | have nx := hb); clear hb; try clear hs; try clear g0; try clear g1; try clear g2; have hx := nx; clear nx; have hs := ns; clear ns; have g0 := n0; clear n0; have g1 := n1; clear n1; have g2 := n2; clear n2))
  go_ret2
  exact ⟨rfl, Ext.auK⟩

set_option maxHeartbeats 3200000 in
theorem ofFinite_no (e f a mode : Int) (fv : Value) (hap : patB e f a = true) (m0 : 0 ≤ mode) (m1 : mode ≤ 5) (fa : finB e f a = false) (na : numB e f a = false) (w : World) (hT : TW w) :
    Calls Tryz.prog 90 #[fmt e f, .int .i64 a, .int .i64 mode, fv] w fun rv w' => rv = .returned (.tuple #[.int .i64 (quV e f), .bool true]) ∧ Ext w w' := by
  have hg := (pat_iff.1 hap).1
  have sga := sign_01 hap
  have hmo : moB mode = true := mo_iff.2 ⟨m0, m1⟩
  have OA := Lib.hid (op_no fa na)
  go_enter Tryz.func90, Tryz.ntmps90
  go_wp2_with (go_at_call 73; (with_reducible refine (operandsOf1 e f mode a (w.heap.size + 1) hmo hap _ (hT.ext Ext.auK) (by first | with_reducible assumption | (simp; done) | (simp [go_sem]; done)) (by simp; try omega)).mono ?_); rintro rv w1 ⟨v, rfl, how, hb⟩; obtain ⟨gl, cap, rfl, hg1, hg2⟩ := how.form (by omega); have c0 := how.cellAt 0 (by omega); simp only [List.getElem?_cons_zero] at c0; rw [OA.out] at c0; clear how; have ns : w.heap.size < w1.heap.size := hb.lt (by first | (simp; done) | (simp; omega)); have g0 : w1.cell? ⟨w.heap.size, 0, none⟩ = some (.int .i64 e) := (hb.cells _ _ (by first | (simp; done) | (simp; omega))).trans (by first | (simp; done) | (simp [go_sem, *]; done)); have g1 : w1.cell? ⟨w.heap.size, 1, none⟩ = some (.int .i64 f) := (hb.cells _ _ (by first | (simp; done) | (simp; omega))).trans (by first | (simp; done) | (simp [go_sem, *]; done)); have hx : Ext w w1 := Ext.trans Ext.auK hb; clear hb)
  have hs : max w.heap.size gl < w1.heap.size := by omega
  go_wp2_with (first | (go_at_call 226; refine (noRounded_any e f mode hg _).mono ?_; rintro rv w1 ⟨rfl, hb⟩; have ns : max w.heap.size gl < w1.heap.size := hb.ltK; have n0 : w1.cell? ⟨w.heap.size, 0, none⟩ = some (.int .i64 e) := hb.cellK; have n1 : w1.cell? ⟨w.heap.size, 1, none⟩ = some (.int .i64 f) := hb.cellK; have n2 : w1.cell? ⟨gl, 0, none⟩ = some ((.iface 107 (.agg #[]))) := hb.cellK; (first | (have nx := Ext.trans hx hb; clear hx) | (have nx := Ext.trans (hx.alloc _) hb; clear hx) | (have nx := Ext.trans hx.drew hb; clear hx) | have nx := hb); clear hb; try clear hs; try clear g0; try clear g1; try clear g2; have hx := nx; clear nx; have hs := ns; clear ns; have g0 := n0; clear n0; have g1 := n1; clear n1; have g2 := n2; clear n2))
  try (go_region_held3 (fun w' => w'.cell? ⟨w.heap.size, 0, none⟩ = some (.int .i64 e) ∧ w'.cell? ⟨w.heap.size, 1, none⟩ = some (.int .i64 f) ∧ w'.cell? ⟨gl, 0, none⟩ = some ((.iface 107 (.agg #[]))) ∧ max w.heap.size gl < w'.heap.size) ((refine ⟨?_, ?_, ?_, ?_⟩ <;> first | with_reducible assumption | ((rw [cell_setRow_far _ _ _ _ _ (by omega)]); with_reducible assumption) | ((rw [setRow_size]); with_reducible assumption) | ((repeat rw [World.cell?_setCell_far _ _ _ _ (by simp)]); with_reducible assumption) | (simp; done) | (simp [World.setCell]; first | done | omega) | (simp [go_sem, World.cell?_alloc_past, World.cell?_setCell_far, *]; done))) ((first | (go_at_call 226; refine (noRounded_any e f mode hg _).mono ?_; rintro rv w1 ⟨rfl, hb⟩; have ns : max w.heap.size gl < w1.heap.size := hb.ltK; have n0 : w1.cell? ⟨w.heap.size, 0, none⟩ = some (.int .i64 e) := hb.cellK; have n1 : w1.cell? ⟨w.heap.size, 1, none⟩ = some (.int .i64 f) := hb.cellK; have n2 : w1.cell? ⟨gl, 0, none⟩ = some ((.iface 107 (.agg #[]))) := hb.cellK; (first | (have nx := Ext.trans hx hb; clear hx) | (have nx := Ext.trans (hx.alloc _) hb; clear hx) | (have nx := Ext.trans hx.drew hb; clear hx) | have nx := hb); clear hb; try clear hs; try clear g0; try clear g1; try clear g2; have hx := nx; clear nx; have hs := ns; clear ns; have g0 := n0; clear n0; have g1 := n1; clear n1; have g2 := n2; clear n2))))
  try go_wp2_with (first | (go_at_call 226; refine (noRounded_any e f mode hg _).mono ?_; rintro rv w1 ⟨rfl, hb⟩; have ns : max w.heap.size gl < w1.heap.size := hb.ltK; have n0 : w1.cell? ⟨w.heap.size, 0, none⟩ = some (.int .i64 e) := hb.cellK; have n1 : w1.cell? ⟨w.heap.size, 1, none⟩ = some (.int .i64 f) := hb.cellK; have n2 : w1.cell? ⟨gl, 0, none⟩ = some ((.iface 107 (.agg #[]))) := hb.cellK; (first | (have nx := Ext.trans hx hb; clear hx) | (have nx := Ext.trans (hx.alloc _) hb; clear hx) | (have nx := Ext.trans hx.drew hb; clear hx) | have nx := hb); clear hb; try clear hs; try clear g0; try clear g1; try clear g2; have hx := nx; clear nx; have hs := ns; clear ns; have g0 := n0; clear n0; have g1 := n1; clear n1; have g2 := n2; clear n2))
  try (go_region_held3 (fun w' => w'.cell? ⟨w.heap.size, 0, none⟩ = some (.int .i64 e) ∧ w'.cell? ⟨w.heap.size, 1, none⟩ = some (.int .i64 f) ∧ w'.cell? ⟨gl, 0, none⟩ = some ((.iface 107 (.agg #[]))) ∧ max w.heap.size gl < w'.heap.size) ((refine ⟨?_, ?_, ?_, ?_⟩ <;> first | with_reducible assumption | ((rw [cell_setRow_far _ _ _ _ _ (by omega)]); with_reducible assumption) | ((rw [setRow_size]); with_reducible assumption) | ((repeat rw [World.cell?_setCell_far _ _ _ _ (by simp)]); with_reducible assumption) | (simp; done) | (simp [World.setCell]; first | done | omega) | (simp [go_sem, World.cell?_alloc_past, World.cell?_setCell_far, *]; done))) ((first | (go_at_call 226; refine (noRounded_any e f mode hg _).mono ?_; rintro rv w1 ⟨rfl, hb⟩; have ns : max w.heap.size gl < w1.heap.size := hb.ltK; have n0 : w1.cell? ⟨w.heap.size, 0, none⟩ = some (.int .i64 e) := hb.cellK; have n1 : w1.cell? ⟨w.heap.size, 1, none⟩ = some (.int .i64 f) := hb.cellK; have n2 : w1.cell? ⟨gl, 0, none⟩ = some ((.iface 107 (.agg #[]))) := hb.cellK; (first | (have nx := Ext.trans hx hb; clear hx) | (have nx := Ext.trans (hx.alloc _) hb; clear hx) | (have nx := Ext.trans hx.drew hb; clear hx) | have nx := hb); clear hb; try clear hs; try clear g0; try clear g1; try clear g2; have hx := nx; clear nx; have hs := ns; clear ns; have g0 := n0; clear n0; have g1 := n1; clear n1; have g2 := n2; clear n2))))
  try go_wp2_with (first | (go_at_call 226; refine (noRounded_any e f mode hg _).mono ?_; rintro rv w1 ⟨rfl, hb⟩; have ns : max w.heap.size gl < w1.heap.size := hb.ltK; have n0 : w1.cell? ⟨w.heap.size, 0, none⟩ = some (.int .i64 e) := hb.cellK; have n1 : w1.cell? ⟨w.heap.size, 1, none⟩ = some (.int .i64 f) := hb.cellK; have n2 : w1.cell? ⟨gl, 0, none⟩ = some ((.iface 107 (.agg #[]))) := hb.cellK; (first | (have nx := Ext.trans hx hb; clear hx) | (have nx := Ext.trans (hx.alloc _) hb; clear hx) | (have nx := Ext.trans hx.drew hb; clear hx) | have nx := hb); clear hb; try clear hs; try clear g0; try clear g1; try clear g2; have hx := nx; clear nx; have hs := ns; clear ns; have g0 := n0; clear n0; have g1 := n1; clear n1; have g2 := n2; clear n2))
  go_ret2
  exact ⟨rfl, Ext.auK⟩

theorem ofFinite_bad0 (e f a mode : Int) (fv : Value) (h0 : moB mode = false) (w : World) (hT : TW w) : Calls Tryz.prog 90 #[fmt e f, .int .i64 a, .int .i64 mode, fv] w fun rv w' => rv = .returned (.tuple #[.int .i64 0, .bool false]) ∧ Ext w w' := by
  go_enter Tryz.func90, Tryz.ntmps90
  go_wp2_with (go_at_call 73; (with_reducible refine (operandsOf_mode e f mode _ h0 _).mono ?_); rintro rv w1 ⟨rfl, hb⟩; have hx : Ext w w1 := Ext.trans Ext.auK hb; clear hb)
  go_ret2
  exact ⟨rfl, hx⟩

theorem ofFinite_bad1 (e f a mode : Int) (fv : Value) (h0 : moB mode = true) (h1 : patB e f a = false) (w : World) (hT : TW w) : Calls Tryz.prog 90 #[fmt e f, .int .i64 a, .int .i64 mode, fv] w fun rv w' => rv = .returned (.tuple #[.int .i64 0, .bool false]) ∧ Ext w w' := by
  go_enter Tryz.func90, Tryz.ntmps90
  go_wp2_with (go_at_call 73; (with_reducible refine (operandsOf1_na e f mode a (w.heap.size + 1) h0 h1 _ (hT.ext Ext.auK) (by first | with_reducible assumption | (simp; done) | (simp [go_sem]; done)) (by simp; try omega)).mono ?_); rintro rv w1 ⟨rfl, hb⟩; have hx : Ext w w1 := Ext.trans Ext.auK hb; clear hb)
  go_ret2
  exact ⟨rfl, hx⟩
end Go.Proofs.YtfgbndjhaiigbaaGreatDoor

