/-
  Contracts of the functions that the laws reach, and the plain facts that they rest on, each under the conditions that its line names; part 33.
-/
import Derived.Test.YtcbkhlaiefiieacDoorKyc1
import Derived.Test.YtcbkhlaiefiieacDoorKyc2
import Derived.Test.YtcbkhlaiefiieacDoorKyc3
import Derived.Test.YtcbkhlaiefiieacDoorKyc4
import Derived.Test.YtcbkhlaiefiieacDoorKyc5
import Derived.Test.YtcbkhlaiefiieacDoorKyc6
import Derived.Test.YtcbkhlaiefiieacDoorKyc7
import Derived.Test.YtcbkhlaiefiieacDoorKyc8
import Derived.Test.YtcbkhlaiefiieacDoorKyc9
import Derived.Test.YtcbkhlaiefiieacDoorKyc10
import Derived.Test.YtcbkhlaiefiieacDoorKyc11
import Derived.Test.YtcbkhlaiefiieacDoorKyc12
import Derived.Test.YtcbkhlaiefiieacDoorKyc13
import Derived.Test.YtcbkhlaiefiieacDoorKyc14
import Derived.Test.YtcbkhlaiefiieacDoorKyc15
import Derived.Test.YtcbkhlaiefiieacDoorKyc16
import Derived.Test.YtcbkhlaiefiieacDoorKyc17
import Derived.Test.YtcbkhlaiefiieacDoorKyc18
import Derived.Test.YtcbkhlaiefiieacDoorKyc19
import Derived.Test.YtcbkhlaiefiieacDoorKyc20
import Derived.Test.YtcbkhlaiefiieacDoorKyc21
import Derived.Test.YtcbkhlaiefiieacDoorKyc22
import Derived.Test.YtcbkhlaiefiieacDoorKyc23
import Derived.Test.YtcbkhlaiefiieacDoorKyc24
import Derived.Test.YtcbkhlaiefiieacDoorKyc25
import Derived.Test.YtcbkhlaiefiieacDoorKyc26
import Derived.Test.YtcbkhlaiefiieacDoorKyc28
import Derived.Test.YtcbkhlaiefiieacDoorKyc31
import Derived.Test.YtcbkhlaiefiieacDoorKyc32
import Derived.Test.YtcbkhlaiefiieacDoorRows
import Derived.WalkKit
import Derived.Handy
import Derived.LoopTactic
import Derived.LoopN
import Derived.Laws.OwnMore
import Derived.OwnWalk
import Derived.Deep.AppendLies
import Derived.Laws.Bits64b
import Derived.WalkSpells
import Derived.WalkLawsBesides
import Derived.StillTactics
import Derived.Laws.Pointers
import Derived.Deep.RegionHeld3
import Derived.Deep.QuietTactic
import Derived.BigQuiet
import Derived.Outline
import Derived.Lib.Hide
import Derived.RowKit3
import Derived.Carry
import Derived.IntWalk
import Derived.Laws.EntriesVeiled
namespace Go.Proofs.YtcbkhlaiefiieacDoor
open Go Go.RowKit
set_option linter.unusedSimpArgs false
set_option linter.unusedVariables false
set_option maxRecDepth 100000

attribute [local go_sem] ta_finite_finite ta_finite_infinite ta_finite_noNumber ta_infinite_finite ta_infinite_infinite ta_infinite_noNumber ta_noNumber_finite ta_noNumber_infinite ta_noNumber_noNumber

attribute [local go_sem] bits32_run

/-- The single pattern of a size times a power. -/
def siV (n x : Int) : Int := if n = 0 then 0 else (x + plV n + 126) * 8388608 + n * pw (24 - plV n) - 8388608

/-- The single pattern of a pattern. -/
def sgW (e f a : Int) : Int := if kindV e f a = 4 then 2143289344 else (a / pw (e + f)) * 2147483648 + (if kindV e f a = 3 then 2139095040 else (siV ((odV (unitsV e f a)).natAbs : Int) (shE (unitsV e f a) (unV e f))))

theorem si_one {e f a r r2 : Int} (hg : patB e f a = true) (h : r = sgW e f a) (h2 : r2 = sgW e f a) : r = r2 := by rw [h, h2]

theorem si_fw {n x : Int} (h0 : 0 ≤ n) (h1 : n < 2048 + 1) (x0 : -24 ≤ x) (x1 : x ≤ 41) : ((fw Ieee.single (n.toNat * 2 ^ (149 + x).toNat) : Nat) : Int) = siV n x := by
  unfold siV
  by_cases hz : n = 0
  · subst hz
    rw [if_pos rfl, show (0 : Int).toNat = 0 from rfl, Nat.zero_mul]
    have : fw Ieee.single 0 = 0 := near_zero _ _
    rw [this]; rfl
  · rw [if_neg hz]
    obtain ⟨L1, b1, b2⟩ := pl_bd n hz (by omega) (by omega)
    have L2 : plV n ≤ 12 := pl_le n 12 (by decide) (by decide) (by rw [show pw 12 = 4096 from rfl]; omega)
    have e1 : pw (plV n - 1) * pw (24 - plV n) = 8388608 := by rw [← pw_add _ _ (by omega) (by omega), show plV n - 1 + (24 - plV n) = 23 by omega]; rfl
    have e2 : pw (plV n) * pw (24 - plV n) = 16777216 := by rw [← pw_add _ _ (by omega) (by omega), show plV n + (24 - plV n) = 24 by omega]; rfl
    have q := pw_pos (24 - plV n)
    have c1 : 8388608 ≤ n * pw (24 - plV n) := by
      rw [← e1]; exact Int.mul_le_mul_of_nonneg_right (by omega) (by omega)
    have c2 : n * pw (24 - plV n) < 16777216 := by
      rw [← e2]; exact Int.mul_lt_mul_of_pos_right (by omega) (by omega)
    obtain ⟨E, hE⟩ : ∃ E : Nat, (E : Int) = x + plV n + 126 := ⟨(x + plV n + 126).toNat, by omega⟩
    obtain ⟨M, hM⟩ : ∃ M : Nat, (M : Int) = n * pw (24 - plV n) - 8388608 := ⟨(n * pw (24 - plV n) - 8388608).toNat, by omega⟩
    have ok : Ok Ieee.single (n.toNat * 2 ^ (149 + x).toNat) := ok32 (by omega) (by omega)
    have hv : vR 23 (E * 2 ^ 23 + M) = n.toNat * 2 ^ (149 + x).toNat := by
      rw [vR_parts 23 E M (by omega) (by omega)]
      have h2 : ((2 ^ 23 + M : Nat) : Int) = ((n.toNat * 2 ^ (24 - plV n).toNat : Nat) : Int) := by
        rw [Int.natCast_mul, pw_cast, Int.toNat_of_nonneg h0, Int.toNat_of_nonneg (show 0 ≤ 24 - plV n by omega)]
        omega
      rw [Int.ofNat_inj.1 h2, Nat.mul_assoc, ← Nat.pow_add]
      congr 2
      omega
    have := fw_of Ieee.single (E * 2 ^ 23 + M) _ ok hv
    rw [this]
    omega

theorem si_bd {n x : Int} (h0 : 0 ≤ n) (h1 : n < 2048 + 1) (x0 : -24 ≤ x) (x1 : x ≤ 41) : 0 ≤ siV n x ∧ siV n x < 2147483648 := by
  unfold siV
  by_cases hz : n = 0
  · rw [if_pos hz]; decide
  · rw [if_neg hz]
    obtain ⟨L1, b1, b2⟩ := pl_bd n hz (by omega) (by omega)
    have L2 : plV n ≤ 12 := pl_le n 12 (by decide) (by decide) (by rw [show pw 12 = 4096 from rfl]; omega)
    have e1 : pw (plV n - 1) * pw (24 - plV n) = 8388608 := by rw [← pw_add _ _ (by omega) (by omega), show plV n - 1 + (24 - plV n) = 23 by omega]; rfl
    have e2 : pw (plV n) * pw (24 - plV n) = 16777216 := by rw [← pw_add _ _ (by omega) (by omega), show plV n + (24 - plV n) = 24 by omega]; rfl
    have q := pw_pos (24 - plV n)
    have c1 : 8388608 ≤ n * pw (24 - plV n) := by
      rw [← e1]; exact Int.mul_le_mul_of_nonneg_right (by omega) (by omega)
    have c2 : n * pw (24 - plV n) < 16777216 := by
      rw [← e2]; exact Int.mul_lt_mul_of_pos_right (by omega) (by omega)
    omega

set_option maxHeartbeats 1600000 in
theorem singleOf_fin0 (n x : Int) (h0 : 0 ≤ n) (h1 : n < 2048 + 1) (x0 : -24 ≤ x) (x1 : x ≤ 41) (w : World) : Calls Tryd.prog 54 #[.iface 66 (.agg #[.int .i64 0, .int .i64 n, .int .i64 x])] w fun rv w' => rv = .returned (.int .i64 (0 * 2147483648 + siV n x)) ∧ Ext w w' := by
  obtain ⟨B, hB⟩ : ∃ B : Nat, B = 1074 := ⟨_, rfl⟩
  obtain ⟨D, hD⟩ : ∃ D : Nat, D = 925 := ⟨_, rfl⟩
  obtain ⟨J, hJ⟩ : ∃ J : Nat, J = 149 := ⟨_, rfl⟩
  have ic : floatOfInt .f64 n = fw Ieee.double (n.toNat * 2 ^ B) := by
    have := int_fw (f := Ieee.double) n.toNat B (by rw [hB]; decide)
    rw [Int.toNat_of_nonneg h0] at this
    exact this
  have okM : Ok Ieee.double (n.toNat * 2 ^ ((J + x).toNat + D)) := ok64 (by omega) (by omega)
  have ok : Ok Ieee.single (n.toNat * 2 ^ (J + x).toNat) := ok32 (by omega) (by omega)
  have hL : ∀ w, Calls Tryd.prog 101 #[.float .f64 (fw Ieee.double (n.toNat * 2 ^ B)), .int .i64 x] w fun rv w' => rv = .returned (.float .f64 (fw Ieee.double (n.toNat * 2 ^ ((J + x).toNat + D)))) ∧ w = w' := by
    intro w
    by_cases hc0 : n = 0
    · subst hc0
      rw [show (0 : Int).toNat = 0 from rfl, Nat.zero_mul, Nat.zero_mul]
      have z0 : fw Ieee.double 0 = 0 := near_zero _ _
      rw [z0]
      exact ldexpW_any 0 0 _ w (ldexp_zero _ w)
    · have := ldexp_c n.toNat 0 x (by omega) (by omega) (by omega) (by omega) (by omega) w
      rw [show (1074 + ((0 : Nat) : Int) + x).toNat = (J + x).toNat + D by omega, show 1074 + 0 = B by omega] at this
      exact ldexpW_any _ _ _ w this
  have HL := Lib.hid hL; clear hL
  have cv : ∀ w, (convert 103 76 (.float .f64 (fw Ieee.double (n.toNat * 2 ^ ((J + x).toNat + D))))).run Tryd.prog w = .ok (.float .f32 (fw Ieee.single (n.toNat * 2 ^ (J + x).toNat))) w := fun w =>
    run_convert_float_float w _ _ .f64 .f32 _ _ (by kernel_rfl) Tryd.underlying76 (conv_fw okM ok (by rw [Nat.pow_add, Nat.mul_assoc, hD]))
  have hv : ((fw Ieee.single (n.toNat * 2 ^ (J + x).toNat) : Nat) : Int) = siV n x := by
    rw [show ((J : Nat) : Int) = 149 by omega]
    exact si_fw h0 h1 x0 x1
  obtain ⟨s0, s1⟩ := si_bd h0 h1 x0 x1
  generalize fw Ieee.double (n.toNat * 2 ^ ((J + x).toNat + D)) = w2 at *
  generalize fw Ieee.double (n.toNat * 2 ^ B) = w1 at *
  generalize fw Ieee.single (n.toNat * 2 ^ (J + x).toNat) = w3 at *
  generalize siV n x = z at *
  have kz : IntKind.i64.wrap (w3 : Int) = z := by rw [hv]; exact IntWalk.i64_in _ (by omega)
  have ks : IntKind.i64.wrap (0 * 2147483648 + z) = 0 * 2147483648 + z := IntWalk.i64_in _ (by omega)
  have ks2 : IntKind.i64.wrap (2147483648 + z) = 2147483648 + z := IntWalk.i64_in _ (by omega)
  have kz2 : IntKind.i64.wrap z = z := IntWalk.i64_in _ (by omega)
  clear okM ok hB hD hJ s0 s1 h0 h1 x0 x1
  go_enter Tryd.func54, Tryd.ntmps54
  go_wp2_with (first | (go_at_call 101; refine (HL.out _).mono ?_; rintro rv w1 ⟨rfl, rfl⟩) | (simp only [bits32_run]))
  first | go_quiet (fail) | go_quiet (simp only [bits32_run]) | go_region
  go_wp2_with fail
  go_ret
  exact ⟨by first | rfl | (simp [hv]; done) | (simp; omega), (by repeat (first | exact Ext.refl _ | with_reducible assumption | apply Ext.alloc | apply Ext.drew | apply Ext.drewN | (refine Ext.setRow ?_ (by first | (simp; done) | (simp; omega) | omega) _) | (refine Ext.setCell ?_ (by first | (simp; done) | (simp; omega) | omega) _) | (refine Ext.trans ?_ (by with_reducible assumption))))⟩

set_option maxHeartbeats 1600000 in
theorem singleOf_fin1 (n x : Int) (h0 : 0 ≤ n) (h1 : n < 2048 + 1) (x0 : -24 ≤ x) (x1 : x ≤ 41) (w : World) : Calls Tryd.prog 54 #[.iface 66 (.agg #[.int .i64 1, .int .i64 n, .int .i64 x])] w fun rv w' => rv = .returned (.int .i64 (1 * 2147483648 + siV n x)) ∧ Ext w w' := by
  obtain ⟨B, hB⟩ : ∃ B : Nat, B = 1074 := ⟨_, rfl⟩
  obtain ⟨D, hD⟩ : ∃ D : Nat, D = 925 := ⟨_, rfl⟩
  obtain ⟨J, hJ⟩ : ∃ J : Nat, J = 149 := ⟨_, rfl⟩
  have ic : floatOfInt .f64 n = fw Ieee.double (n.toNat * 2 ^ B) := by
    have := int_fw (f := Ieee.double) n.toNat B (by rw [hB]; decide)
    rw [Int.toNat_of_nonneg h0] at this
    exact this
  have okM : Ok Ieee.double (n.toNat * 2 ^ ((J + x).toNat + D)) := ok64 (by omega) (by omega)
  have ok : Ok Ieee.single (n.toNat * 2 ^ (J + x).toNat) := ok32 (by omega) (by omega)
  have hL : ∀ w, Calls Tryd.prog 101 #[.float .f64 (fw Ieee.double (n.toNat * 2 ^ B)), .int .i64 x] w fun rv w' => rv = .returned (.float .f64 (fw Ieee.double (n.toNat * 2 ^ ((J + x).toNat + D)))) ∧ w = w' := by
    intro w
    by_cases hc0 : n = 0
    · subst hc0
      rw [show (0 : Int).toNat = 0 from rfl, Nat.zero_mul, Nat.zero_mul]
      have z0 : fw Ieee.double 0 = 0 := near_zero _ _
      rw [z0]
      exact ldexpW_any 0 0 _ w (ldexp_zero _ w)
    · have := ldexp_c n.toNat 0 x (by omega) (by omega) (by omega) (by omega) (by omega) w
      rw [show (1074 + ((0 : Nat) : Int) + x).toNat = (J + x).toNat + D by omega, show 1074 + 0 = B by omega] at this
      exact ldexpW_any _ _ _ w this
  have HL := Lib.hid hL; clear hL
  have cv : ∀ w, (convert 103 76 (.float .f64 (fw Ieee.double (n.toNat * 2 ^ ((J + x).toNat + D))))).run Tryd.prog w = .ok (.float .f32 (fw Ieee.single (n.toNat * 2 ^ (J + x).toNat))) w := fun w =>
    run_convert_float_float w _ _ .f64 .f32 _ _ (by kernel_rfl) Tryd.underlying76 (conv_fw okM ok (by rw [Nat.pow_add, Nat.mul_assoc, hD]))
  have hv : ((fw Ieee.single (n.toNat * 2 ^ (J + x).toNat) : Nat) : Int) = siV n x := by
    rw [show ((J : Nat) : Int) = 149 by omega]
    exact si_fw h0 h1 x0 x1
  obtain ⟨s0, s1⟩ := si_bd h0 h1 x0 x1
  generalize fw Ieee.double (n.toNat * 2 ^ ((J + x).toNat + D)) = w2 at *
  generalize fw Ieee.double (n.toNat * 2 ^ B) = w1 at *
  generalize fw Ieee.single (n.toNat * 2 ^ (J + x).toNat) = w3 at *
  generalize siV n x = z at *
  have kz : IntKind.i64.wrap (w3 : Int) = z := by rw [hv]; exact IntWalk.i64_in _ (by omega)
  have ks : IntKind.i64.wrap (1 * 2147483648 + z) = 1 * 2147483648 + z := IntWalk.i64_in _ (by omega)
  have ks2 : IntKind.i64.wrap (2147483648 + z) = 2147483648 + z := IntWalk.i64_in _ (by omega)
  have kz2 : IntKind.i64.wrap z = z := IntWalk.i64_in _ (by omega)
  clear okM ok hB hD hJ s0 s1 h0 h1 x0 x1
  go_enter Tryd.func54, Tryd.ntmps54
  go_wp2_with (first | (go_at_call 101; refine (HL.out _).mono ?_; rintro rv w1 ⟨rfl, rfl⟩) | (simp only [bits32_run]))
  first | go_quiet (fail) | go_quiet (simp only [bits32_run]) | go_region
  go_wp2_with fail
  go_ret
  exact ⟨by first | rfl | (simp [hv]; done) | (simp; omega), (by repeat (first | exact Ext.refl _ | with_reducible assumption | apply Ext.alloc | apply Ext.drew | apply Ext.drewN | (refine Ext.setRow ?_ (by first | (simp; done) | (simp; omega) | omega) _) | (refine Ext.setCell ?_ (by first | (simp; done) | (simp; omega) | omega) _) | (refine Ext.trans ?_ (by with_reducible assumption))))⟩

theorem singleOf_inf (m : Int) (hm : m = 0 ∨ m = 1) (w : World) : Calls Tryd.prog 54 #[.iface 108 (.agg #[.int .i64 m])] w fun rv w' => rv = .returned (.int .i64 (m * 2147483648 + 2139095040)) ∧ Ext w w' := by
  rcases hm with rfl | rfl
  all_goals
    go_enter Tryd.func54, Tryd.ntmps54
    go_wp2
    go_ret
    exact ⟨rfl, (by repeat (first | exact Ext.refl _ | with_reducible assumption | apply Ext.alloc | apply Ext.drew | apply Ext.drewN | (refine Ext.setRow ?_ (by first | (simp; done) | (simp; omega) | omega) _) | (refine Ext.setCell ?_ (by first | (simp; done) | (simp; omega) | omega) _) | (refine Ext.trans ?_ (by with_reducible assumption))))⟩

theorem singleOf_no (w : World) : Calls Tryd.prog 54 #[.iface 111 (.agg #[])] w fun rv w' => rv = .returned (.int .i64 2143289344) ∧ Ext w w' := by
  skip
  all_goals
    go_enter Tryd.func54, Tryd.ntmps54
    go_wp2
    go_ret
    exact ⟨rfl, (by repeat (first | exact Ext.refl _ | with_reducible assumption | apply Ext.alloc | apply Ext.drew | apply Ext.drewN | (refine Ext.setRow ?_ (by first | (simp; done) | (simp; omega) | omega) _) | (refine Ext.setCell ?_ (by first | (simp; done) | (simp; omega) | omega) _) | (refine Ext.trans ?_ (by with_reducible assumption))))⟩

theorem iSingleOf_no (e f a : Int) (hg : patB e f a = false) (w : World) (hT : TW w) : Calls Tryd.prog 20 #[fmt e f, .int .i64 a] w fun rv w' => rv = .returned (.tuple #[.int .i64 0, .bool false]) ∧ Ext w w' := by
  go_enter Tryd.func20, Tryd.ntmps20
  go_wp2_with (go_at_call 53; refine (isPattern_any e f a _).mono ?_; rintro rv w1 ⟨rfl, hb⟩; have ns : w.heap.size < w1.heap.size := hb.lt (by first | with_reducible assumption | omega | (simp; done) | (simp; omega)); have n0 : w1.cell? ⟨w.heap.size, 0, none⟩ = some (.int .i64 e) := (hb.cells _ _ (by first | with_reducible assumption | omega | (simp; done) | (simp; omega))).trans (by first | with_reducible assumption | (simp; done) | (simp; with_reducible assumption) | (rw [cell_alloc_before _ _ _ _ (by omega)]; with_reducible assumption) | (simp [go_sem, *]; done)); have n1 : w1.cell? ⟨w.heap.size, 1, none⟩ = some (.int .i64 f) := (hb.cells _ _ (by first | with_reducible assumption | omega | (simp; done) | (simp; omega))).trans (by first | with_reducible assumption | (simp; done) | (simp; with_reducible assumption) | (rw [cell_alloc_before _ _ _ _ (by omega)]; with_reducible assumption) | (simp [go_sem, *]; done)); (first | (have nx := Ext.trans hx hb; clear hx) | (have nx := Ext.trans (hx.alloc _) hb; clear hx) | (have nx := Ext.trans hx.drew hb; clear hx) | have nx := hb); clear hb; try clear hs; try clear g0; try clear g1; have hx := nx; clear nx; have hs := ns; clear ns; have g0 := n0; clear n0; have g1 := n1; clear n1)
  go_ret2
  exact ⟨rfl, (by repeat (first | exact Ext.refl _ | with_reducible assumption | apply Ext.alloc | apply Ext.drew | apply Ext.drewN | (refine Ext.setRow ?_ (by first | (simp; done) | (simp; omega) | omega) _) | (refine Ext.setCell ?_ (by first | (simp; done) | (simp; omega) | omega) _) | (refine Ext.trans ?_ (by with_reducible assumption))))⟩

theorem singleOf_any (m n x : Int) (hm : m = 0 ∨ m = 1) (h0 : 0 ≤ n) (h1 : n < 2048 + 1) (x0 : -24 ≤ x) (x1 : x ≤ 41) (w : World) : Calls Tryd.prog 54 #[.iface 66 (.agg #[.int .i64 m, .int .i64 n, .int .i64 x])] w fun rv w' => rv = .returned (.int .i64 (m * 2147483648 + siV n x)) ∧ Ext w w' := by
  rcases hm with rfl | rfl
  · exact singleOf_fin0 n x h0 h1 x0 x1 w
  · exact singleOf_fin1 n x h0 h1 x0 x1 w

theorem iSingleOf_fin (e f a : Int) (hg : patB e f a = true) (fa : finB e f a = true) (ka : kindV e f a < 3) (w : World) (hT : TW w) : Calls Tryd.prog 20 #[fmt e f, .int .i64 a] w (ARboth (fun r => r = sgW e f a) w) := by
  have sga := sign_01 hg
  have OX := Lib.hid (fun (w : World) (hT : TW w) => operandOf_fin e f a fa w hT)
  obtain ⟨ua1, ua2, ua3, ua4, ua5⟩ := un_small hg
  have u1 := un_bd (pat_iff.1 hg).1
  have xb : -24 ≤ (shE (unitsV e f a) (unV e f)) ∧ (shE (unitsV e f a) (unV e f)) ≤ 41 := by
    by_cases h : (unitsV e f a) = 0
    · have := ua5 h; omega
    · have := ua4 h; omega
  have SO := Lib.hid (fun w => singleOf_any (a / pw (e + f)) ((odV (unitsV e f a)).natAbs : Int) (shE (unitsV e f a) (unV e f)) sga (by omega) (by omega) xb.1 xb.2 w)
  clear ua1 ua2 ua3 ua4 ua5 u1 xb
  go_enter Tryd.func20, Tryd.ntmps20
  go_wp2_with (first | (go_at_call 53; refine (isPattern_any e f a _).mono ?_; rintro rv w1 ⟨rfl, hb⟩; have ns : w.heap.size < w1.heap.size := hb.lt (by first | with_reducible assumption | omega | (simp; done) | (simp; omega)); have n0 : w1.cell? ⟨w.heap.size, 0, none⟩ = some (.int .i64 e) := (hb.cells _ _ (by first | with_reducible assumption | omega | (simp; done) | (simp; omega))).trans (by first | with_reducible assumption | (simp; done) | (simp; with_reducible assumption) | (rw [cell_alloc_before _ _ _ _ (by omega)]; with_reducible assumption) | (simp [go_sem, *]; done)); have n1 : w1.cell? ⟨w.heap.size, 1, none⟩ = some (.int .i64 f) := (hb.cells _ _ (by first | with_reducible assumption | omega | (simp; done) | (simp; omega))).trans (by first | with_reducible assumption | (simp; done) | (simp; with_reducible assumption) | (rw [cell_alloc_before _ _ _ _ (by omega)]; with_reducible assumption) | (simp [go_sem, *]; done)); (first | (have nx := Ext.trans hx hb; clear hx) | (have nx := Ext.trans (hx.alloc _) hb; clear hx) | (have nx := Ext.trans hx.drew hb; clear hx) | have nx := hb); clear hb; try clear hs; try clear g0; try clear g1; have hx := nx; clear nx; have hs := ns; clear ns; have g0 := n0; clear n0; have g1 := n1; clear n1) | (go_at_call 55; (with_reducible refine (OX.out _ (hT.ext (by repeat (first | exact Ext.refl _ | with_reducible assumption | apply Ext.alloc | apply Ext.drew | apply Ext.drewN | (refine Ext.setRow ?_ (by first | (simp; done) | (simp; omega) | omega) _) | (refine Ext.setCell ?_ (by first | (simp; done) | (simp; omega) | omega) _) | (refine Ext.trans ?_ (by with_reducible assumption)))))).mono ?_); rintro rv w1 ⟨rfl, hb⟩; have hx : Ext w w1 := Ext.trans (by repeat (first | exact Ext.refl _ | with_reducible assumption | apply Ext.alloc | apply Ext.drew | apply Ext.drewN | (refine Ext.setRow ?_ (by first | (simp; done) | (simp; omega) | omega) _) | (refine Ext.setCell ?_ (by first | (simp; done) | (simp; omega) | omega) _) | (refine Ext.trans ?_ (by with_reducible assumption)))) hb; clear hb) | (go_at_call 54; (with_reducible refine (SO.out _).mono ?_); rintro rv w2 ⟨rfl, hb⟩; have hx2 : Ext w w2 := Ext.trans (by repeat (first | exact Ext.refl _ | with_reducible assumption | apply Ext.alloc | apply Ext.drew | apply Ext.drewN | (refine Ext.setRow ?_ (by first | (simp; done) | (simp; omega) | omega) _) | (refine Ext.setCell ?_ (by first | (simp; done) | (simp; omega) | omega) _) | (refine Ext.trans ?_ (by with_reducible assumption)))) hb; clear hb))
  try (go_region_held3 (fun w' => True) ((refine ⟨?_⟩ <;> first | with_reducible assumption | ((rw [cell_setRow_far _ _ _ _ _ (by omega)]); with_reducible assumption) | ((rw [setRow_size]); with_reducible assumption) | ((repeat rw [World.cell?_setCell_far _ _ _ _ (by simp)]); with_reducible assumption) | (simp; done) | (simp [World.setCell]; first | done | omega) | (simp [go_sem, World.cell?_alloc_past, World.cell?_setCell_far, *]; done))) ((first | (go_at_call 55; (with_reducible refine (OX.out _ (hT.ext (by repeat (first | exact Ext.refl _ | with_reducible assumption | apply Ext.alloc | apply Ext.drew | apply Ext.drewN | (refine Ext.setRow ?_ (by first | (simp; done) | (simp; omega) | omega) _) | (refine Ext.setCell ?_ (by first | (simp; done) | (simp; omega) | omega) _) | (refine Ext.trans ?_ (by with_reducible assumption)))))).mono ?_); rintro rv w1 ⟨rfl, hb⟩; have hx : Ext w w1 := Ext.trans (by repeat (first | exact Ext.refl _ | with_reducible assumption | apply Ext.alloc | apply Ext.drew | apply Ext.drewN | (refine Ext.setRow ?_ (by first | (simp; done) | (simp; omega) | omega) _) | (refine Ext.setCell ?_ (by first | (simp; done) | (simp; omega) | omega) _) | (refine Ext.trans ?_ (by with_reducible assumption)))) hb; clear hb) | (go_at_call 54; (with_reducible refine (SO.out _).mono ?_); rintro rv w2 ⟨rfl, hb⟩; have hx2 : Ext w w2 := Ext.trans (by repeat (first | exact Ext.refl _ | with_reducible assumption | apply Ext.alloc | apply Ext.drew | apply Ext.drewN | (refine Ext.setRow ?_ (by first | (simp; done) | (simp; omega) | omega) _) | (refine Ext.setCell ?_ (by first | (simp; done) | (simp; omega) | omega) _) | (refine Ext.trans ?_ (by with_reducible assumption)))) hb; clear hb))))
  try go_wp2_with (first | (go_at_call 55; (with_reducible refine (OX.out _ (hT.ext (by repeat (first | exact Ext.refl _ | with_reducible assumption | apply Ext.alloc | apply Ext.drew | apply Ext.drewN | (refine Ext.setRow ?_ (by first | (simp; done) | (simp; omega) | omega) _) | (refine Ext.setCell ?_ (by first | (simp; done) | (simp; omega) | omega) _) | (refine Ext.trans ?_ (by with_reducible assumption)))))).mono ?_); rintro rv w1 ⟨rfl, hb⟩; have hx : Ext w w1 := Ext.trans (by repeat (first | exact Ext.refl _ | with_reducible assumption | apply Ext.alloc | apply Ext.drew | apply Ext.drewN | (refine Ext.setRow ?_ (by first | (simp; done) | (simp; omega) | omega) _) | (refine Ext.setCell ?_ (by first | (simp; done) | (simp; omega) | omega) _) | (refine Ext.trans ?_ (by with_reducible assumption)))) hb; clear hb) | (go_at_call 54; (with_reducible refine (SO.out _).mono ?_); rintro rv w2 ⟨rfl, hb⟩; have hx2 : Ext w w2 := Ext.trans (by repeat (first | exact Ext.refl _ | with_reducible assumption | apply Ext.alloc | apply Ext.drew | apply Ext.drewN | (refine Ext.setRow ?_ (by first | (simp; done) | (simp; omega) | omega) _) | (refine Ext.setCell ?_ (by first | (simp; done) | (simp; omega) | omega) _) | (refine Ext.trans ?_ (by with_reducible assumption)))) hb; clear hb))
  go_ret2
  exact ⟨_, rfl, by unfold sgW; rw [if_neg (by omega), if_neg (by omega)], (by repeat (first | exact Ext.refl _ | with_reducible assumption | apply Ext.alloc | apply Ext.drew | apply Ext.drewN | (refine Ext.setRow ?_ (by first | (simp; done) | (simp; omega) | omega) _) | (refine Ext.setCell ?_ (by first | (simp; done) | (simp; omega) | omega) _) | (refine Ext.trans ?_ (by with_reducible assumption))))⟩

theorem iSingleOf_inf (e f a : Int) (hg : patB e f a = true) (fa : finB e f a = false) (na : numB e f a = true) (ka : kindV e f a = 3) (w : World) (hT : TW w) : Calls Tryd.prog 20 #[fmt e f, .int .i64 a] w (ARboth (fun r => r = sgW e f a) w) := by
  have sga := sign_01 hg
  have OX := Lib.hid (fun (w : World) (hT : TW w) => operandOf_inf e f a hg fa na w)
  go_enter Tryd.func20, Tryd.ntmps20
  go_wp2_with (first | (go_at_call 53; refine (isPattern_any e f a _).mono ?_; rintro rv w1 ⟨rfl, hb⟩; have ns : w.heap.size < w1.heap.size := hb.lt (by first | with_reducible assumption | omega | (simp; done) | (simp; omega)); have n0 : w1.cell? ⟨w.heap.size, 0, none⟩ = some (.int .i64 e) := (hb.cells _ _ (by first | with_reducible assumption | omega | (simp; done) | (simp; omega))).trans (by first | with_reducible assumption | (simp; done) | (simp; with_reducible assumption) | (rw [cell_alloc_before _ _ _ _ (by omega)]; with_reducible assumption) | (simp [go_sem, *]; done)); have n1 : w1.cell? ⟨w.heap.size, 1, none⟩ = some (.int .i64 f) := (hb.cells _ _ (by first | with_reducible assumption | omega | (simp; done) | (simp; omega))).trans (by first | with_reducible assumption | (simp; done) | (simp; with_reducible assumption) | (rw [cell_alloc_before _ _ _ _ (by omega)]; with_reducible assumption) | (simp [go_sem, *]; done)); (first | (have nx := Ext.trans hx hb; clear hx) | (have nx := Ext.trans (hx.alloc _) hb; clear hx) | (have nx := Ext.trans hx.drew hb; clear hx) | have nx := hb); clear hb; try clear hs; try clear g0; try clear g1; have hx := nx; clear nx; have hs := ns; clear ns; have g0 := n0; clear n0; have g1 := n1; clear n1) | (go_at_call 55; (with_reducible refine (OX.out _ (hT.ext (by repeat (first | exact Ext.refl _ | with_reducible assumption | apply Ext.alloc | apply Ext.drew | apply Ext.drewN | (refine Ext.setRow ?_ (by first | (simp; done) | (simp; omega) | omega) _) | (refine Ext.setCell ?_ (by first | (simp; done) | (simp; omega) | omega) _) | (refine Ext.trans ?_ (by with_reducible assumption)))))).mono ?_); rintro rv w1 ⟨rfl, hb⟩; have hx : Ext w w1 := Ext.trans (by repeat (first | exact Ext.refl _ | with_reducible assumption | apply Ext.alloc | apply Ext.drew | apply Ext.drewN | (refine Ext.setRow ?_ (by first | (simp; done) | (simp; omega) | omega) _) | (refine Ext.setCell ?_ (by first | (simp; done) | (simp; omega) | omega) _) | (refine Ext.trans ?_ (by with_reducible assumption)))) hb; clear hb) | (go_at_call 54; (with_reducible refine (singleOf_inf _ sga _).mono ?_); rintro rv w2 ⟨rfl, hb⟩; have hx2 : Ext w w2 := Ext.trans (by repeat (first | exact Ext.refl _ | with_reducible assumption | apply Ext.alloc | apply Ext.drew | apply Ext.drewN | (refine Ext.setRow ?_ (by first | (simp; done) | (simp; omega) | omega) _) | (refine Ext.setCell ?_ (by first | (simp; done) | (simp; omega) | omega) _) | (refine Ext.trans ?_ (by with_reducible assumption)))) hb; clear hb))
  try (go_region_held3 (fun w' => True) ((refine ⟨?_⟩ <;> first | with_reducible assumption | ((rw [cell_setRow_far _ _ _ _ _ (by omega)]); with_reducible assumption) | ((rw [setRow_size]); with_reducible assumption) | ((repeat rw [World.cell?_setCell_far _ _ _ _ (by simp)]); with_reducible assumption) | (simp; done) | (simp [World.setCell]; first | done | omega) | (simp [go_sem, World.cell?_alloc_past, World.cell?_setCell_far, *]; done))) ((first | (go_at_call 55; (with_reducible refine (OX.out _ (hT.ext (by repeat (first | exact Ext.refl _ | with_reducible assumption | apply Ext.alloc | apply Ext.drew | apply Ext.drewN | (refine Ext.setRow ?_ (by first | (simp; done) | (simp; omega) | omega) _) | (refine Ext.setCell ?_ (by first | (simp; done) | (simp; omega) | omega) _) | (refine Ext.trans ?_ (by with_reducible assumption)))))).mono ?_); rintro rv w1 ⟨rfl, hb⟩; have hx : Ext w w1 := Ext.trans (by repeat (first | exact Ext.refl _ | with_reducible assumption | apply Ext.alloc | apply Ext.drew | apply Ext.drewN | (refine Ext.setRow ?_ (by first | (simp; done) | (simp; omega) | omega) _) | (refine Ext.setCell ?_ (by first | (simp; done) | (simp; omega) | omega) _) | (refine Ext.trans ?_ (by with_reducible assumption)))) hb; clear hb) | (go_at_call 54; (with_reducible refine (singleOf_inf _ sga _).mono ?_); rintro rv w2 ⟨rfl, hb⟩; have hx2 : Ext w w2 := Ext.trans (by repeat (first | exact Ext.refl _ | with_reducible assumption | apply Ext.alloc | apply Ext.drew | apply Ext.drewN | (refine Ext.setRow ?_ (by first | (simp; done) | (simp; omega) | omega) _) | (refine Ext.setCell ?_ (by first | (simp; done) | (simp; omega) | omega) _) | (refine Ext.trans ?_ (by with_reducible assumption)))) hb; clear hb))))
  try go_wp2_with (first | (go_at_call 55; (with_reducible refine (OX.out _ (hT.ext (by repeat (first | exact Ext.refl _ | with_reducible assumption | apply Ext.alloc | apply Ext.drew | apply Ext.drewN | (refine Ext.setRow ?_ (by first | (simp; done) | (simp; omega) | omega) _) | (refine Ext.setCell ?_ (by first | (simp; done) | (simp; omega) | omega) _) | (refine Ext.trans ?_ (by with_reducible assumption)))))).mono ?_); rintro rv w1 ⟨rfl, hb⟩; have hx : Ext w w1 := Ext.trans (by repeat (first | exact Ext.refl _ | with_reducible assumption | apply Ext.alloc | apply Ext.drew | apply Ext.drewN | (refine Ext.setRow ?_ (by first | (simp; done) | (simp; omega) | omega) _) | (refine Ext.setCell ?_ (by first | (simp; done) | (simp; omega) | omega) _) | (refine Ext.trans ?_ (by with_reducible assumption)))) hb; clear hb) | (go_at_call 54; (with_reducible refine (singleOf_inf _ sga _).mono ?_); rintro rv w2 ⟨rfl, hb⟩; have hx2 : Ext w w2 := Ext.trans (by repeat (first | exact Ext.refl _ | with_reducible assumption | apply Ext.alloc | apply Ext.drew | apply Ext.drewN | (refine Ext.setRow ?_ (by first | (simp; done) | (simp; omega) | omega) _) | (refine Ext.setCell ?_ (by first | (simp; done) | (simp; omega) | omega) _) | (refine Ext.trans ?_ (by with_reducible assumption)))) hb; clear hb))
  go_ret2
  exact ⟨_, rfl, by unfold sgW; rw [if_neg (by omega), if_pos ka], (by repeat (first | exact Ext.refl _ | with_reducible assumption | apply Ext.alloc | apply Ext.drew | apply Ext.drewN | (refine Ext.setRow ?_ (by first | (simp; done) | (simp; omega) | omega) _) | (refine Ext.setCell ?_ (by first | (simp; done) | (simp; omega) | omega) _) | (refine Ext.trans ?_ (by with_reducible assumption))))⟩

theorem iSingleOf_nan (e f a : Int) (hg : patB e f a = true) (na : numB e f a = false) (ka : kindV e f a = 4) (w : World) (hT : TW w) : Calls Tryd.prog 20 #[fmt e f, .int .i64 a] w (ARboth (fun r => r = sgW e f a) w) := by
  have sga := sign_01 hg
  have OX := Lib.hid (fun (w : World) (hT : TW w) => operandOf_no e f a hg na w)
  go_enter Tryd.func20, Tryd.ntmps20
  go_wp2_with (first | (go_at_call 53; refine (isPattern_any e f a _).mono ?_; rintro rv w1 ⟨rfl, hb⟩; have ns : w.heap.size < w1.heap.size := hb.lt (by first | with_reducible assumption | omega | (simp; done) | (simp; omega)); have n0 : w1.cell? ⟨w.heap.size, 0, none⟩ = some (.int .i64 e) := (hb.cells _ _ (by first | with_reducible assumption | omega | (simp; done) | (simp; omega))).trans (by first | with_reducible assumption | (simp; done) | (simp; with_reducible assumption) | (rw [cell_alloc_before _ _ _ _ (by omega)]; with_reducible assumption) | (simp [go_sem, *]; done)); have n1 : w1.cell? ⟨w.heap.size, 1, none⟩ = some (.int .i64 f) := (hb.cells _ _ (by first | with_reducible assumption | omega | (simp; done) | (simp; omega))).trans (by first | with_reducible assumption | (simp; done) | (simp; with_reducible assumption) | (rw [cell_alloc_before _ _ _ _ (by omega)]; with_reducible assumption) | (simp [go_sem, *]; done)); (first | (have nx := Ext.trans hx hb; clear hx) | (have nx := Ext.trans (hx.alloc _) hb; clear hx) | (have nx := Ext.trans hx.drew hb; clear hx) | have nx := hb); clear hb; try clear hs; try clear g0; try clear g1; have hx := nx; clear nx; have hs := ns; clear ns; have g0 := n0; clear n0; have g1 := n1; clear n1) | (go_at_call 55; (with_reducible refine (OX.out _ (hT.ext (by repeat (first | exact Ext.refl _ | with_reducible assumption | apply Ext.alloc | apply Ext.drew | apply Ext.drewN | (refine Ext.setRow ?_ (by first | (simp; done) | (simp; omega) | omega) _) | (refine Ext.setCell ?_ (by first | (simp; done) | (simp; omega) | omega) _) | (refine Ext.trans ?_ (by with_reducible assumption)))))).mono ?_); rintro rv w1 ⟨rfl, hb⟩; have hx : Ext w w1 := Ext.trans (by repeat (first | exact Ext.refl _ | with_reducible assumption | apply Ext.alloc | apply Ext.drew | apply Ext.drewN | (refine Ext.setRow ?_ (by first | (simp; done) | (simp; omega) | omega) _) | (refine Ext.setCell ?_ (by first | (simp; done) | (simp; omega) | omega) _) | (refine Ext.trans ?_ (by with_reducible assumption)))) hb; clear hb) | (go_at_call 54; (with_reducible refine (singleOf_no _).mono ?_); rintro rv w2 ⟨rfl, hb⟩; have hx2 : Ext w w2 := Ext.trans (by repeat (first | exact Ext.refl _ | with_reducible assumption | apply Ext.alloc | apply Ext.drew | apply Ext.drewN | (refine Ext.setRow ?_ (by first | (simp; done) | (simp; omega) | omega) _) | (refine Ext.setCell ?_ (by first | (simp; done) | (simp; omega) | omega) _) | (refine Ext.trans ?_ (by with_reducible assumption)))) hb; clear hb))
  try (go_region_held3 (fun w' => True) ((refine ⟨?_⟩ <;> first | with_reducible assumption | ((rw [cell_setRow_far _ _ _ _ _ (by omega)]); with_reducible assumption) | ((rw [setRow_size]); with_reducible assumption) | ((repeat rw [World.cell?_setCell_far _ _ _ _ (by simp)]); with_reducible assumption) | (simp; done) | (simp [World.setCell]; first | done | omega) | (simp [go_sem, World.cell?_alloc_past, World.cell?_setCell_far, *]; done))) ((first | (go_at_call 55; (with_reducible refine (OX.out _ (hT.ext (by repeat (first | exact Ext.refl _ | with_reducible assumption | apply Ext.alloc | apply Ext.drew | apply Ext.drewN | (refine Ext.setRow ?_ (by first | (simp; done) | (simp; omega) | omega) _) | (refine Ext.setCell ?_ (by first | (simp; done) | (simp; omega) | omega) _) | (refine Ext.trans ?_ (by with_reducible assumption)))))).mono ?_); rintro rv w1 ⟨rfl, hb⟩; have hx : Ext w w1 := Ext.trans (by repeat (first | exact Ext.refl _ | with_reducible assumption | apply Ext.alloc | apply Ext.drew | apply Ext.drewN | (refine Ext.setRow ?_ (by first | (simp; done) | (simp; omega) | omega) _) | (refine Ext.setCell ?_ (by first | (simp; done) | (simp; omega) | omega) _) | (refine Ext.trans ?_ (by with_reducible assumption)))) hb; clear hb) | (go_at_call 54; (with_reducible refine (singleOf_no _).mono ?_); rintro rv w2 ⟨rfl, hb⟩; have hx2 : Ext w w2 := Ext.trans (by repeat (first | exact Ext.refl _ | with_reducible assumption | apply Ext.alloc | apply Ext.drew | apply Ext.drewN | (refine Ext.setRow ?_ (by first | (simp; done) | (simp; omega) | omega) _) | (refine Ext.setCell ?_ (by first | (simp; done) | (simp; omega) | omega) _) | (refine Ext.trans ?_ (by with_reducible assumption)))) hb; clear hb))))
  try go_wp2_with (first | (go_at_call 55; (with_reducible refine (OX.out _ (hT.ext (by repeat (first | exact Ext.refl _ | with_reducible assumption | apply Ext.alloc | apply Ext.drew | apply Ext.drewN | (refine Ext.setRow ?_ (by first | (simp; done) | (simp; omega) | omega) _) | (refine Ext.setCell ?_ (by first | (simp; done) | (simp; omega) | omega) _) | (refine Ext.trans ?_ (by with_reducible assumption)))))).mono ?_); rintro rv w1 ⟨rfl, hb⟩; have hx : Ext w w1 := Ext.trans (by repeat (first | exact Ext.refl _ | with_reducible assumption | apply Ext.alloc | apply Ext.drew | apply Ext.drewN | (refine Ext.setRow ?_ (by first | (simp; done) | (simp; omega) | omega) _) | (refine Ext.setCell ?_ (by first | (simp; done) | (simp; omega) | omega) _) | (refine Ext.trans ?_ (by with_reducible assumption)))) hb; clear hb) | (go_at_call 54; (with_reducible refine (singleOf_no _).mono ?_); rintro rv w2 ⟨rfl, hb⟩; have hx2 : Ext w w2 := Ext.trans (by repeat (first | exact Ext.refl _ | with_reducible assumption | apply Ext.alloc | apply Ext.drew | apply Ext.drewN | (refine Ext.setRow ?_ (by first | (simp; done) | (simp; omega) | omega) _) | (refine Ext.setCell ?_ (by first | (simp; done) | (simp; omega) | omega) _) | (refine Ext.trans ?_ (by with_reducible assumption)))) hb; clear hb))
  go_ret2
  exact ⟨_, rfl, by unfold sgW; rw [if_pos ka], (by repeat (first | exact Ext.refl _ | with_reducible assumption | apply Ext.alloc | apply Ext.drew | apply Ext.drewN | (refine Ext.setRow ?_ (by first | (simp; done) | (simp; omega) | omega) _) | (refine Ext.setCell ?_ (by first | (simp; done) | (simp; omega) | omega) _) | (refine Ext.trans ?_ (by with_reducible assumption))))⟩

theorem iSingleOf_yes (e f a : Int) (hg : patB e f a = true) (w : World) (hT : TW w) : Calls Tryd.prog 20 #[fmt e f, .int .i64 a] w (ARboth (fun r => r = sgW e f a) w) := by
  rcases kind_parts hg with ⟨h, f1, n1⟩ | ⟨h, f1, n1⟩ | ⟨h, f1, _⟩ | ⟨h, f1, _⟩
  · exact iSingleOf_nan e f a hg n1 h w hT
  · exact iSingleOf_inf e f a hg f1 n1 h w hT
  · exact iSingleOf_fin e f a hg f1 (by omega) w hT
  · exact iSingleOf_fin e f a hg f1 (by omega) w hT
end Go.Proofs.YtcbkhlaiefiieacDoor

namespace Go.Proofs.YtcbkhlaiefiieacDoor
open Go Go.RowKit
set_option linter.unusedSimpArgs false
set_option linter.unusedVariables false
set_option maxRecDepth 100000

theorem sSingleOf_no (e f a : Int) (hg : patB e f a = false) (w : World) : Calls Tryd.prog 19 #[fmt e f, .int .i64 a] w fun rv w' => rv = .returned (.tuple #[.int .i64 0, .bool false]) ∧ Ext w w' := by
  go_enter Tryd.func19, Tryd.ntmps19
  go_wp2_with (go_at_call 48; refine (fmIs_any e f a _).mono ?_; rintro rv w1 ⟨rfl, hb⟩; have ns : w.heap.size < w1.heap.size := hb.lt (by first | with_reducible assumption | omega | (simp; done) | (simp; omega)); have n0 : w1.cell? ⟨w.heap.size, 0, none⟩ = some (.int .i64 e) := (hb.cells _ _ (by first | with_reducible assumption | omega | (simp; done) | (simp; omega))).trans (by first | with_reducible assumption | (simp; done) | (simp; with_reducible assumption) | (rw [cell_alloc_before _ _ _ _ (by omega)]; with_reducible assumption) | (simp [go_sem, *]; done)); have n1 : w1.cell? ⟨w.heap.size, 1, none⟩ = some (.int .i64 f) := (hb.cells _ _ (by first | with_reducible assumption | omega | (simp; done) | (simp; omega))).trans (by first | with_reducible assumption | (simp; done) | (simp; with_reducible assumption) | (rw [cell_alloc_before _ _ _ _ (by omega)]; with_reducible assumption) | (simp [go_sem, *]; done)); (first | (have nx := Ext.trans hx hb; clear hx) | (have nx := Ext.trans (hx.alloc _) hb; clear hx) | (have nx := Ext.trans hx.drew hb; clear hx) | have nx := hb); clear hb; try clear hs; try clear g0; try clear g1; have hx := nx; clear nx; have hs := ns; clear ns; have g0 := n0; clear n0; have g1 := n1; clear n1)
  go_ret2
  exact ⟨rfl, (by repeat (first | exact Ext.refl _ | with_reducible assumption | apply Ext.alloc | apply Ext.drew | apply Ext.drewN | (refine Ext.setRow ?_ (by first | (simp; done) | (simp; omega) | omega) _) | (refine Ext.setCell ?_ (by first | (simp; done) | (simp; omega) | omega) _) | (refine Ext.trans ?_ (by with_reducible assumption))))⟩

theorem sSingleOf_x0 (e f a : Int) (hg : patB e f a = true) (hk : kindV e f a = 4) (hs : (a / pw (e + f)) = 0) (w : World) : Calls Tryd.prog 19 #[fmt e f, .int .i64 a] w (ARboth (fun r => r = sgW e f a) w) := by
  obtain ⟨hgg, a0, a1⟩ := pat_iff.1 hg
  have FS := Lib.hid (fun w => by have := fmSign_any e f a hgg a0 w; rw [hs] at this; exact this)
  have FK := Lib.hid (fun w => by have := fmKind_any e f a hg w; rw [hk] at this; exact this)
  have HS := Lib.hid hs
  have HK := Lib.hid hk
  clear hs hk
  go_enter Tryd.func19, Tryd.ntmps19
  go_wp2_with (first | (go_at_call 48; refine (fmIs_any e f a _).mono ?_; rintro rv w1 ⟨rfl, hb⟩; have ns : w.heap.size < w1.heap.size := hb.lt (by first | with_reducible assumption | omega | (simp; done) | (simp; omega)); have n0 : w1.cell? ⟨w.heap.size, 0, none⟩ = some (.int .i64 e) := (hb.cells _ _ (by first | with_reducible assumption | omega | (simp; done) | (simp; omega))).trans (by first | with_reducible assumption | (simp; done) | (simp; with_reducible assumption) | (rw [cell_alloc_before _ _ _ _ (by omega)]; with_reducible assumption) | (simp [go_sem, *]; done)); have n1 : w1.cell? ⟨w.heap.size, 1, none⟩ = some (.int .i64 f) := (hb.cells _ _ (by first | with_reducible assumption | omega | (simp; done) | (simp; omega))).trans (by first | with_reducible assumption | (simp; done) | (simp; with_reducible assumption) | (rw [cell_alloc_before _ _ _ _ (by omega)]; with_reducible assumption) | (simp [go_sem, *]; done)); (first | (have nx := Ext.trans hx hb; clear hx) | (have nx := Ext.trans (hx.alloc _) hb; clear hx) | (have nx := Ext.trans hx.drew hb; clear hx) | have nx := hb); clear hb; try clear hs; try clear g0; try clear g1; have hx := nx; clear nx; have hs := ns; clear ns; have g0 := n0; clear n0; have g1 := n1; clear n1) | (go_at_call 49; (with_reducible refine (FS.out _).mono ?_); rintro rv w1 ⟨rfl, hb⟩; have ns : w.heap.size < w1.heap.size := hb.lt (by first | with_reducible assumption | omega | (simp; done) | (simp; omega)); have n0 : w1.cell? ⟨w.heap.size, 0, none⟩ = some (.int .i64 e) := (hb.cells _ _ (by first | with_reducible assumption | omega | (simp; done) | (simp; omega))).trans (by first | with_reducible assumption | (simp; done) | (simp; with_reducible assumption) | (rw [cell_alloc_before _ _ _ _ (by omega)]; with_reducible assumption) | (simp [go_sem, *]; done)); have n1 : w1.cell? ⟨w.heap.size, 1, none⟩ = some (.int .i64 f) := (hb.cells _ _ (by first | with_reducible assumption | omega | (simp; done) | (simp; omega))).trans (by first | with_reducible assumption | (simp; done) | (simp; with_reducible assumption) | (rw [cell_alloc_before _ _ _ _ (by omega)]; with_reducible assumption) | (simp [go_sem, *]; done)); (first | (have nx := Ext.trans hx hb; clear hx) | (have nx := Ext.trans (hx.alloc _) hb; clear hx) | (have nx := Ext.trans hx.drew hb; clear hx) | have nx := hb); clear hb; try clear hs; try clear g0; try clear g1; have hx := nx; clear nx; have hs := ns; clear ns; have g0 := n0; clear n0; have g1 := n1; clear n1) | (go_at_call 50; (with_reducible refine (FK.out _).mono ?_); rintro rv w1 ⟨rfl, hb⟩; have ns : w.heap.size < w1.heap.size := hb.lt (by first | with_reducible assumption | omega | (simp; done) | (simp; omega)); have n0 : w1.cell? ⟨w.heap.size, 0, none⟩ = some (.int .i64 e) := (hb.cells _ _ (by first | with_reducible assumption | omega | (simp; done) | (simp; omega))).trans (by first | with_reducible assumption | (simp; done) | (simp; with_reducible assumption) | (rw [cell_alloc_before _ _ _ _ (by omega)]; with_reducible assumption) | (simp [go_sem, *]; done)); have n1 : w1.cell? ⟨w.heap.size, 1, none⟩ = some (.int .i64 f) := (hb.cells _ _ (by first | with_reducible assumption | omega | (simp; done) | (simp; omega))).trans (by first | with_reducible assumption | (simp; done) | (simp; with_reducible assumption) | (rw [cell_alloc_before _ _ _ _ (by omega)]; with_reducible assumption) | (simp [go_sem, *]; done)); (first | (have nx := Ext.trans hx hb; clear hx) | (have nx := Ext.trans (hx.alloc _) hb; clear hx) | (have nx := Ext.trans hx.drew hb; clear hx) | have nx := hb); clear hb; try clear hs; try clear g0; try clear g1; have hx := nx; clear nx; have hs := ns; clear ns; have g0 := n0; clear n0; have g1 := n1; clear n1))
  have hs := HS.out
  have hk := HK.out
  go_ret2
  exact ⟨_, rfl, by unfold sgW; rw [if_pos hk], (by repeat (first | exact Ext.refl _ | with_reducible assumption | apply Ext.alloc | apply Ext.drew | apply Ext.drewN | (refine Ext.setRow ?_ (by first | (simp; done) | (simp; omega) | omega) _) | (refine Ext.setCell ?_ (by first | (simp; done) | (simp; omega) | omega) _) | (refine Ext.trans ?_ (by with_reducible assumption))))⟩

theorem sSingleOf_x1 (e f a : Int) (hg : patB e f a = true) (hk : kindV e f a = 4) (hs : (a / pw (e + f)) = 1) (w : World) : Calls Tryd.prog 19 #[fmt e f, .int .i64 a] w (ARboth (fun r => r = sgW e f a) w) := by
  obtain ⟨hgg, a0, a1⟩ := pat_iff.1 hg
  have FS := Lib.hid (fun w => by have := fmSign_any e f a hgg a0 w; rw [hs] at this; exact this)
  have FK := Lib.hid (fun w => by have := fmKind_any e f a hg w; rw [hk] at this; exact this)
  have HS := Lib.hid hs
  have HK := Lib.hid hk
  clear hs hk
  go_enter Tryd.func19, Tryd.ntmps19
  go_wp2_with (first | (go_at_call 48; refine (fmIs_any e f a _).mono ?_; rintro rv w1 ⟨rfl, hb⟩; have ns : w.heap.size < w1.heap.size := hb.lt (by first | with_reducible assumption | omega | (simp; done) | (simp; omega)); have n0 : w1.cell? ⟨w.heap.size, 0, none⟩ = some (.int .i64 e) := (hb.cells _ _ (by first | with_reducible assumption | omega | (simp; done) | (simp; omega))).trans (by first | with_reducible assumption | (simp; done) | (simp; with_reducible assumption) | (rw [cell_alloc_before _ _ _ _ (by omega)]; with_reducible assumption) | (simp [go_sem, *]; done)); have n1 : w1.cell? ⟨w.heap.size, 1, none⟩ = some (.int .i64 f) := (hb.cells _ _ (by first | with_reducible assumption | omega | (simp; done) | (simp; omega))).trans (by first | with_reducible assumption | (simp; done) | (simp; with_reducible assumption) | (rw [cell_alloc_before _ _ _ _ (by omega)]; with_reducible assumption) | (simp [go_sem, *]; done)); (first | (have nx := Ext.trans hx hb; clear hx) | (have nx := Ext.trans (hx.alloc _) hb; clear hx) | (have nx := Ext.trans hx.drew hb; clear hx) | have nx := hb); clear hb; try clear hs; try clear g0; try clear g1; have hx := nx; clear nx; have hs := ns; clear ns; have g0 := n0; clear n0; have g1 := n1; clear n1) | (go_at_call 49; (with_reducible refine (FS.out _).mono ?_); rintro rv w1 ⟨rfl, hb⟩; have ns : w.heap.size < w1.heap.size := hb.lt (by first | with_reducible assumption | omega | (simp; done) | (simp; omega)); have n0 : w1.cell? ⟨w.heap.size, 0, none⟩ = some (.int .i64 e) := (hb.cells _ _ (by first | with_reducible assumption | omega | (simp; done) | (simp; omega))).trans (by first | with_reducible assumption | (simp; done) | (simp; with_reducible assumption) | (rw [cell_alloc_before _ _ _ _ (by omega)]; with_reducible assumption) | (simp [go_sem, *]; done)); have n1 : w1.cell? ⟨w.heap.size, 1, none⟩ = some (.int .i64 f) := (hb.cells _ _ (by first | with_reducible assumption | omega | (simp; done) | (simp; omega))).trans (by first | with_reducible assumption | (simp; done) | (simp; with_reducible assumption) | (rw [cell_alloc_before _ _ _ _ (by omega)]; with_reducible assumption) | (simp [go_sem, *]; done)); (first | (have nx := Ext.trans hx hb; clear hx) | (have nx := Ext.trans (hx.alloc _) hb; clear hx) | (have nx := Ext.trans hx.drew hb; clear hx) | have nx := hb); clear hb; try clear hs; try clear g0; try clear g1; have hx := nx; clear nx; have hs := ns; clear ns; have g0 := n0; clear n0; have g1 := n1; clear n1) | (go_at_call 50; (with_reducible refine (FK.out _).mono ?_); rintro rv w1 ⟨rfl, hb⟩; have ns : w.heap.size < w1.heap.size := hb.lt (by first | with_reducible assumption | omega | (simp; done) | (simp; omega)); have n0 : w1.cell? ⟨w.heap.size, 0, none⟩ = some (.int .i64 e) := (hb.cells _ _ (by first | with_reducible assumption | omega | (simp; done) | (simp; omega))).trans (by first | with_reducible assumption | (simp; done) | (simp; with_reducible assumption) | (rw [cell_alloc_before _ _ _ _ (by omega)]; with_reducible assumption) | (simp [go_sem, *]; done)); have n1 : w1.cell? ⟨w.heap.size, 1, none⟩ = some (.int .i64 f) := (hb.cells _ _ (by first | with_reducible assumption | omega | (simp; done) | (simp; omega))).trans (by first | with_reducible assumption | (simp; done) | (simp; with_reducible assumption) | (rw [cell_alloc_before _ _ _ _ (by omega)]; with_reducible assumption) | (simp [go_sem, *]; done)); (first | (have nx := Ext.trans hx hb; clear hx) | (have nx := Ext.trans (hx.alloc _) hb; clear hx) | (have nx := Ext.trans hx.drew hb; clear hx) | have nx := hb); clear hb; try clear hs; try clear g0; try clear g1; have hx := nx; clear nx; have hs := ns; clear ns; have g0 := n0; clear n0; have g1 := n1; clear n1))
  have hs := HS.out
  have hk := HK.out
  go_ret2
  exact ⟨_, rfl, by unfold sgW; rw [if_pos hk], (by repeat (first | exact Ext.refl _ | with_reducible assumption | apply Ext.alloc | apply Ext.drew | apply Ext.drewN | (refine Ext.setRow ?_ (by first | (simp; done) | (simp; omega) | omega) _) | (refine Ext.setCell ?_ (by first | (simp; done) | (simp; omega) | omega) _) | (refine Ext.trans ?_ (by with_reducible assumption))))⟩

theorem sSingleOf_i0 (e f a : Int) (hg : patB e f a = true) (hk : kindV e f a = 3) (hs : (a / pw (e + f)) = 0) (w : World) : Calls Tryd.prog 19 #[fmt e f, .int .i64 a] w (ARboth (fun r => r = sgW e f a) w) := by
  obtain ⟨hgg, a0, a1⟩ := pat_iff.1 hg
  have FS := Lib.hid (fun w => by have := fmSign_any e f a hgg a0 w; rw [hs] at this; exact this)
  have FK := Lib.hid (fun w => by have := fmKind_any e f a hg w; rw [hk] at this; exact this)
  have HS := Lib.hid hs
  have HK := Lib.hid hk
  clear hs hk
  go_enter Tryd.func19, Tryd.ntmps19
  go_wp2_with (first | (go_at_call 48; refine (fmIs_any e f a _).mono ?_; rintro rv w1 ⟨rfl, hb⟩; have ns : w.heap.size < w1.heap.size := hb.lt (by first | with_reducible assumption | omega | (simp; done) | (simp; omega)); have n0 : w1.cell? ⟨w.heap.size, 0, none⟩ = some (.int .i64 e) := (hb.cells _ _ (by first | with_reducible assumption | omega | (simp; done) | (simp; omega))).trans (by first | with_reducible assumption | (simp; done) | (simp; with_reducible assumption) | (rw [cell_alloc_before _ _ _ _ (by omega)]; with_reducible assumption) | (simp [go_sem, *]; done)); have n1 : w1.cell? ⟨w.heap.size, 1, none⟩ = some (.int .i64 f) := (hb.cells _ _ (by first | with_reducible assumption | omega | (simp; done) | (simp; omega))).trans (by first | with_reducible assumption | (simp; done) | (simp; with_reducible assumption) | (rw [cell_alloc_before _ _ _ _ (by omega)]; with_reducible assumption) | (simp [go_sem, *]; done)); (first | (have nx := Ext.trans hx hb; clear hx) | (have nx := Ext.trans (hx.alloc _) hb; clear hx) | (have nx := Ext.trans hx.drew hb; clear hx) | have nx := hb); clear hb; try clear hs; try clear g0; try clear g1; have hx := nx; clear nx; have hs := ns; clear ns; have g0 := n0; clear n0; have g1 := n1; clear n1) | (go_at_call 49; (with_reducible refine (FS.out _).mono ?_); rintro rv w1 ⟨rfl, hb⟩; have ns : w.heap.size < w1.heap.size := hb.lt (by first | with_reducible assumption | omega | (simp; done) | (simp; omega)); have n0 : w1.cell? ⟨w.heap.size, 0, none⟩ = some (.int .i64 e) := (hb.cells _ _ (by first | with_reducible assumption | omega | (simp; done) | (simp; omega))).trans (by first | with_reducible assumption | (simp; done) | (simp; with_reducible assumption) | (rw [cell_alloc_before _ _ _ _ (by omega)]; with_reducible assumption) | (simp [go_sem, *]; done)); have n1 : w1.cell? ⟨w.heap.size, 1, none⟩ = some (.int .i64 f) := (hb.cells _ _ (by first | with_reducible assumption | omega | (simp; done) | (simp; omega))).trans (by first | with_reducible assumption | (simp; done) | (simp; with_reducible assumption) | (rw [cell_alloc_before _ _ _ _ (by omega)]; with_reducible assumption) | (simp [go_sem, *]; done)); (first | (have nx := Ext.trans hx hb; clear hx) | (have nx := Ext.trans (hx.alloc _) hb; clear hx) | (have nx := Ext.trans hx.drew hb; clear hx) | have nx := hb); clear hb; try clear hs; try clear g0; try clear g1; have hx := nx; clear nx; have hs := ns; clear ns; have g0 := n0; clear n0; have g1 := n1; clear n1) | (go_at_call 50; (with_reducible refine (FK.out _).mono ?_); rintro rv w1 ⟨rfl, hb⟩; have ns : w.heap.size < w1.heap.size := hb.lt (by first | with_reducible assumption | omega | (simp; done) | (simp; omega)); have n0 : w1.cell? ⟨w.heap.size, 0, none⟩ = some (.int .i64 e) := (hb.cells _ _ (by first | with_reducible assumption | omega | (simp; done) | (simp; omega))).trans (by first | with_reducible assumption | (simp; done) | (simp; with_reducible assumption) | (rw [cell_alloc_before _ _ _ _ (by omega)]; with_reducible assumption) | (simp [go_sem, *]; done)); have n1 : w1.cell? ⟨w.heap.size, 1, none⟩ = some (.int .i64 f) := (hb.cells _ _ (by first | with_reducible assumption | omega | (simp; done) | (simp; omega))).trans (by first | with_reducible assumption | (simp; done) | (simp; with_reducible assumption) | (rw [cell_alloc_before _ _ _ _ (by omega)]; with_reducible assumption) | (simp [go_sem, *]; done)); (first | (have nx := Ext.trans hx hb; clear hx) | (have nx := Ext.trans (hx.alloc _) hb; clear hx) | (have nx := Ext.trans hx.drew hb; clear hx) | have nx := hb); clear hb; try clear hs; try clear g0; try clear g1; have hx := nx; clear nx; have hs := ns; clear ns; have g0 := n0; clear n0; have g1 := n1; clear n1))
  have hs := HS.out
  have hk := HK.out
  go_ret2
  exact ⟨_, rfl, by unfold sgW; rw [if_neg (by omega), if_pos hk, hs]; rfl, (by repeat (first | exact Ext.refl _ | with_reducible assumption | apply Ext.alloc | apply Ext.drew | apply Ext.drewN | (refine Ext.setRow ?_ (by first | (simp; done) | (simp; omega) | omega) _) | (refine Ext.setCell ?_ (by first | (simp; done) | (simp; omega) | omega) _) | (refine Ext.trans ?_ (by with_reducible assumption))))⟩

theorem sSingleOf_i1 (e f a : Int) (hg : patB e f a = true) (hk : kindV e f a = 3) (hs : (a / pw (e + f)) = 1) (w : World) : Calls Tryd.prog 19 #[fmt e f, .int .i64 a] w (ARboth (fun r => r = sgW e f a) w) := by
  obtain ⟨hgg, a0, a1⟩ := pat_iff.1 hg
  have FS := Lib.hid (fun w => by have := fmSign_any e f a hgg a0 w; rw [hs] at this; exact this)
  have FK := Lib.hid (fun w => by have := fmKind_any e f a hg w; rw [hk] at this; exact this)
  have HS := Lib.hid hs
  have HK := Lib.hid hk
  clear hs hk
  go_enter Tryd.func19, Tryd.ntmps19
  go_wp2_with (first | (go_at_call 48; refine (fmIs_any e f a _).mono ?_; rintro rv w1 ⟨rfl, hb⟩; have ns : w.heap.size < w1.heap.size := hb.lt (by first | with_reducible assumption | omega | (simp; done) | (simp; omega)); have n0 : w1.cell? ⟨w.heap.size, 0, none⟩ = some (.int .i64 e) := (hb.cells _ _ (by first | with_reducible assumption | omega | (simp; done) | (simp; omega))).trans (by first | with_reducible assumption | (simp; done) | (simp; with_reducible assumption) | (rw [cell_alloc_before _ _ _ _ (by omega)]; with_reducible assumption) | (simp [go_sem, *]; done)); have n1 : w1.cell? ⟨w.heap.size, 1, none⟩ = some (.int .i64 f) := (hb.cells _ _ (by first | with_reducible assumption | omega | (simp; done) | (simp; omega))).trans (by first | with_reducible assumption | (simp; done) | (simp; with_reducible assumption) | (rw [cell_alloc_before _ _ _ _ (by omega)]; with_reducible assumption) | (simp [go_sem, *]; done)); (first | (have nx := Ext.trans hx hb; clear hx) | (have nx := Ext.trans (hx.alloc _) hb; clear hx) | (have nx := Ext.trans hx.drew hb; clear hx) | have nx := hb); clear hb; try clear hs; try clear g0; try clear g1; have hx := nx; clear nx; have hs := ns; clear ns; have g0 := n0; clear n0; have g1 := n1; clear n1) | (go_at_call 49; (with_reducible refine (FS.out _).mono ?_); rintro rv w1 ⟨rfl, hb⟩; have ns : w.heap.size < w1.heap.size := hb.lt (by first | with_reducible assumption | omega | (simp; done) | (simp; omega)); have n0 : w1.cell? ⟨w.heap.size, 0, none⟩ = some (.int .i64 e) := (hb.cells _ _ (by first | with_reducible assumption | omega | (simp; done) | (simp; omega))).trans (by first | with_reducible assumption | (simp; done) | (simp; with_reducible assumption) | (rw [cell_alloc_before _ _ _ _ (by omega)]; with_reducible assumption) | (simp [go_sem, *]; done)); have n1 : w1.cell? ⟨w.heap.size, 1, none⟩ = some (.int .i64 f) := (hb.cells _ _ (by first | with_reducible assumption | omega | (simp; done) | (simp; omega))).trans (by first | with_reducible assumption | (simp; done) | (simp; with_reducible assumption) | (rw [cell_alloc_before _ _ _ _ (by omega)]; with_reducible assumption) | (simp [go_sem, *]; done)); (first | (have nx := Ext.trans hx hb; clear hx) | (have nx := Ext.trans (hx.alloc _) hb; clear hx) | (have nx := Ext.trans hx.drew hb; clear hx) | have nx := hb); clear hb; try clear hs; try clear g0; try clear g1; have hx := nx; clear nx; have hs := ns; clear ns; have g0 := n0; clear n0; have g1 := n1; clear n1) | (go_at_call 50; (with_reducible refine (FK.out _).mono ?_); rintro rv w1 ⟨rfl, hb⟩; have ns : w.heap.size < w1.heap.size := hb.lt (by first | with_reducible assumption | omega | (simp; done) | (simp; omega)); have n0 : w1.cell? ⟨w.heap.size, 0, none⟩ = some (.int .i64 e) := (hb.cells _ _ (by first | with_reducible assumption | omega | (simp; done) | (simp; omega))).trans (by first | with_reducible assumption | (simp; done) | (simp; with_reducible assumption) | (rw [cell_alloc_before _ _ _ _ (by omega)]; with_reducible assumption) | (simp [go_sem, *]; done)); have n1 : w1.cell? ⟨w.heap.size, 1, none⟩ = some (.int .i64 f) := (hb.cells _ _ (by first | with_reducible assumption | omega | (simp; done) | (simp; omega))).trans (by first | with_reducible assumption | (simp; done) | (simp; with_reducible assumption) | (rw [cell_alloc_before _ _ _ _ (by omega)]; with_reducible assumption) | (simp [go_sem, *]; done)); (first | (have nx := Ext.trans hx hb; clear hx) | (have nx := Ext.trans (hx.alloc _) hb; clear hx) | (have nx := Ext.trans hx.drew hb; clear hx) | have nx := hb); clear hb; try clear hs; try clear g0; try clear g1; have hx := nx; clear nx; have hs := ns; clear ns; have g0 := n0; clear n0; have g1 := n1; clear n1))
  have hs := HS.out
  have hk := HK.out
  go_ret2
  exact ⟨_, rfl, by unfold sgW; rw [if_neg (by omega), if_pos hk, hs]; rfl, (by repeat (first | exact Ext.refl _ | with_reducible assumption | apply Ext.alloc | apply Ext.drew | apply Ext.drewN | (refine Ext.setRow ?_ (by first | (simp; done) | (simp; omega) | omega) _) | (refine Ext.setCell ?_ (by first | (simp; done) | (simp; omega) | omega) _) | (refine Ext.trans ?_ (by with_reducible assumption))))⟩

theorem sSingleOf_z0 (e f a : Int) (hg : patB e f a = true) (hk : kindV e f a = 0) (hs : (a / pw (e + f)) = 0) (w : World) : Calls Tryd.prog 19 #[fmt e f, .int .i64 a] w (ARboth (fun r => r = sgW e f a) w) := by
  obtain ⟨hgg, a0, a1⟩ := pat_iff.1 hg
  have FS := Lib.hid (fun w => by have := fmSign_any e f a hgg a0 w; rw [hs] at this; exact this)
  have FK := Lib.hid (fun w => by have := fmKind_any e f a hg w; rw [hk] at this; exact this)
  have HS := Lib.hid hs
  have HK := Lib.hid hk
  clear hs hk
  go_enter Tryd.func19, Tryd.ntmps19
  go_wp2_with (first | (go_at_call 48; refine (fmIs_any e f a _).mono ?_; rintro rv w1 ⟨rfl, hb⟩; have ns : w.heap.size < w1.heap.size := hb.lt (by first | with_reducible assumption | omega | (simp; done) | (simp; omega)); have n0 : w1.cell? ⟨w.heap.size, 0, none⟩ = some (.int .i64 e) := (hb.cells _ _ (by first | with_reducible assumption | omega | (simp; done) | (simp; omega))).trans (by first | with_reducible assumption | (simp; done) | (simp; with_reducible assumption) | (rw [cell_alloc_before _ _ _ _ (by omega)]; with_reducible assumption) | (simp [go_sem, *]; done)); have n1 : w1.cell? ⟨w.heap.size, 1, none⟩ = some (.int .i64 f) := (hb.cells _ _ (by first | with_reducible assumption | omega | (simp; done) | (simp; omega))).trans (by first | with_reducible assumption | (simp; done) | (simp; with_reducible assumption) | (rw [cell_alloc_before _ _ _ _ (by omega)]; with_reducible assumption) | (simp [go_sem, *]; done)); (first | (have nx := Ext.trans hx hb; clear hx) | (have nx := Ext.trans (hx.alloc _) hb; clear hx) | (have nx := Ext.trans hx.drew hb; clear hx) | have nx := hb); clear hb; try clear hs; try clear g0; try clear g1; have hx := nx; clear nx; have hs := ns; clear ns; have g0 := n0; clear n0; have g1 := n1; clear n1) | (go_at_call 49; (with_reducible refine (FS.out _).mono ?_); rintro rv w1 ⟨rfl, hb⟩; have ns : w.heap.size < w1.heap.size := hb.lt (by first | with_reducible assumption | omega | (simp; done) | (simp; omega)); have n0 : w1.cell? ⟨w.heap.size, 0, none⟩ = some (.int .i64 e) := (hb.cells _ _ (by first | with_reducible assumption | omega | (simp; done) | (simp; omega))).trans (by first | with_reducible assumption | (simp; done) | (simp; with_reducible assumption) | (rw [cell_alloc_before _ _ _ _ (by omega)]; with_reducible assumption) | (simp [go_sem, *]; done)); have n1 : w1.cell? ⟨w.heap.size, 1, none⟩ = some (.int .i64 f) := (hb.cells _ _ (by first | with_reducible assumption | omega | (simp; done) | (simp; omega))).trans (by first | with_reducible assumption | (simp; done) | (simp; with_reducible assumption) | (rw [cell_alloc_before _ _ _ _ (by omega)]; with_reducible assumption) | (simp [go_sem, *]; done)); (first | (have nx := Ext.trans hx hb; clear hx) | (have nx := Ext.trans (hx.alloc _) hb; clear hx) | (have nx := Ext.trans hx.drew hb; clear hx) | have nx := hb); clear hb; try clear hs; try clear g0; try clear g1; have hx := nx; clear nx; have hs := ns; clear ns; have g0 := n0; clear n0; have g1 := n1; clear n1) | (go_at_call 50; (with_reducible refine (FK.out _).mono ?_); rintro rv w1 ⟨rfl, hb⟩; have ns : w.heap.size < w1.heap.size := hb.lt (by first | with_reducible assumption | omega | (simp; done) | (simp; omega)); have n0 : w1.cell? ⟨w.heap.size, 0, none⟩ = some (.int .i64 e) := (hb.cells _ _ (by first | with_reducible assumption | omega | (simp; done) | (simp; omega))).trans (by first | with_reducible assumption | (simp; done) | (simp; with_reducible assumption) | (rw [cell_alloc_before _ _ _ _ (by omega)]; with_reducible assumption) | (simp [go_sem, *]; done)); have n1 : w1.cell? ⟨w.heap.size, 1, none⟩ = some (.int .i64 f) := (hb.cells _ _ (by first | with_reducible assumption | omega | (simp; done) | (simp; omega))).trans (by first | with_reducible assumption | (simp; done) | (simp; with_reducible assumption) | (rw [cell_alloc_before _ _ _ _ (by omega)]; with_reducible assumption) | (simp [go_sem, *]; done)); (first | (have nx := Ext.trans hx hb; clear hx) | (have nx := Ext.trans (hx.alloc _) hb; clear hx) | (have nx := Ext.trans hx.drew hb; clear hx) | have nx := hb); clear hb; try clear hs; try clear g0; try clear g1; have hx := nx; clear nx; have hs := ns; clear ns; have g0 := n0; clear n0; have g1 := n1; clear n1))
  have hs := HS.out
  have hk := HK.out
  go_ret2
  exact ⟨_, rfl, by unfold sgW; rw [if_neg (by omega), if_neg (by omega), hs, (kind_units hg).1 hk, od_zero]; rfl, (by repeat (first | exact Ext.refl _ | with_reducible assumption | apply Ext.alloc | apply Ext.drew | apply Ext.drewN | (refine Ext.setRow ?_ (by first | (simp; done) | (simp; omega) | omega) _) | (refine Ext.setCell ?_ (by first | (simp; done) | (simp; omega) | omega) _) | (refine Ext.trans ?_ (by with_reducible assumption))))⟩

theorem sSingleOf_z1 (e f a : Int) (hg : patB e f a = true) (hk : kindV e f a = 0) (hs : (a / pw (e + f)) = 1) (w : World) : Calls Tryd.prog 19 #[fmt e f, .int .i64 a] w (ARboth (fun r => r = sgW e f a) w) := by
  obtain ⟨hgg, a0, a1⟩ := pat_iff.1 hg
  have FS := Lib.hid (fun w => by have := fmSign_any e f a hgg a0 w; rw [hs] at this; exact this)
  have FK := Lib.hid (fun w => by have := fmKind_any e f a hg w; rw [hk] at this; exact this)
  have HS := Lib.hid hs
  have HK := Lib.hid hk
  clear hs hk
  go_enter Tryd.func19, Tryd.ntmps19
  go_wp2_with (first | (go_at_call 48; refine (fmIs_any e f a _).mono ?_; rintro rv w1 ⟨rfl, hb⟩; have ns : w.heap.size < w1.heap.size := hb.lt (by first | with_reducible assumption | omega | (simp; done) | (simp; omega)); have n0 : w1.cell? ⟨w.heap.size, 0, none⟩ = some (.int .i64 e) := (hb.cells _ _ (by first | with_reducible assumption | omega | (simp; done) | (simp; omega))).trans (by first | with_reducible assumption | (simp; done) | (simp; with_reducible assumption) | (rw [cell_alloc_before _ _ _ _ (by omega)]; with_reducible assumption) | (simp [go_sem, *]; done)); have n1 : w1.cell? ⟨w.heap.size, 1, none⟩ = some (.int .i64 f) := (hb.cells _ _ (by first | with_reducible assumption | omega | (simp; done) | (simp; omega))).trans (by first | with_reducible assumption | (simp; done) | (simp; with_reducible assumption) | (rw [cell_alloc_before _ _ _ _ (by omega)]; with_reducible assumption) | (simp [go_sem, *]; done)); (first | (have nx := Ext.trans hx hb; clear hx) | (have nx := Ext.trans (hx.alloc _) hb; clear hx) | (have nx := Ext.trans hx.drew hb; clear hx) | have nx := hb); clear hb; try clear hs; try clear g0; try clear g1; have hx := nx; clear nx; have hs := ns; clear ns; have g0 := n0; clear n0; have g1 := n1; clear n1) | (go_at_call 49; (with_reducible refine (FS.out _).mono ?_); rintro rv w1 ⟨rfl, hb⟩; have ns : w.heap.size < w1.heap.size := hb.lt (by first | with_reducible assumption | omega | (simp; done) | (simp; omega)); have n0 : w1.cell? ⟨w.heap.size, 0, none⟩ = some (.int .i64 e) := (hb.cells _ _ (by first | with_reducible assumption | omega | (simp; done) | (simp; omega))).trans (by first | with_reducible assumption | (simp; done) | (simp; with_reducible assumption) | (rw [cell_alloc_before _ _ _ _ (by omega)]; with_reducible assumption) | (simp [go_sem, *]; done)); have n1 : w1.cell? ⟨w.heap.size, 1, none⟩ = some (.int .i64 f) := (hb.cells _ _ (by first | with_reducible assumption | omega | (simp; done) | (simp; omega))).trans (by first | with_reducible assumption | (simp; done) | (simp; with_reducible assumption) | (rw [cell_alloc_before _ _ _ _ (by omega)]; with_reducible assumption) | (simp [go_sem, *]; done)); (first | (have nx := Ext.trans hx hb; clear hx) | (have nx := Ext.trans (hx.alloc _) hb; clear hx) | (have nx := Ext.trans hx.drew hb; clear hx) | have nx := hb); clear hb; try clear hs; try clear g0; try clear g1; have hx := nx; clear nx; have hs := ns; clear ns; have g0 := n0; clear n0; have g1 := n1; clear n1) | (go_at_call 50; (with_reducible refine (FK.out _).mono ?_); rintro rv w1 ⟨rfl, hb⟩; have ns : w.heap.size < w1.heap.size := hb.lt (by first | with_reducible assumption | omega | (simp; done) | (simp; omega)); have n0 : w1.cell? ⟨w.heap.size, 0, none⟩ = some (.int .i64 e) := (hb.cells _ _ (by first | with_reducible assumption | omega | (simp; done) | (simp; omega))).trans (by first | with_reducible assumption | (simp; done) | (simp; with_reducible assumption) | (rw [cell_alloc_before _ _ _ _ (by omega)]; with_reducible assumption) | (simp [go_sem, *]; done)); have n1 : w1.cell? ⟨w.heap.size, 1, none⟩ = some (.int .i64 f) := (hb.cells _ _ (by first | with_reducible assumption | omega | (simp; done) | (simp; omega))).trans (by first | with_reducible assumption | (simp; done) | (simp; with_reducible assumption) | (rw [cell_alloc_before _ _ _ _ (by omega)]; with_reducible assumption) | (simp [go_sem, *]; done)); (first | (have nx := Ext.trans hx hb; clear hx) | (have nx := Ext.trans (hx.alloc _) hb; clear hx) | (have nx := Ext.trans hx.drew hb; clear hx) | have nx := hb); clear hb; try clear hs; try clear g0; try clear g1; have hx := nx; clear nx; have hs := ns; clear ns; have g0 := n0; clear n0; have g1 := n1; clear n1))
  have hs := HS.out
  have hk := HK.out
  go_ret2
  exact ⟨_, rfl, by unfold sgW; rw [if_neg (by omega), if_neg (by omega), hs, (kind_units hg).1 hk, od_zero]; rfl, (by repeat (first | exact Ext.refl _ | with_reducible assumption | apply Ext.alloc | apply Ext.drew | apply Ext.drewN | (refine Ext.setRow ?_ (by first | (simp; done) | (simp; omega) | omega) _) | (refine Ext.setCell ?_ (by first | (simp; done) | (simp; omega) | omega) _) | (refine Ext.trans ?_ (by with_reducible assumption))))⟩

set_option maxHeartbeats 3200000 in
theorem sSingleOf_f0 (e f a : Int) (hg : patB e f a = true) (ha : kindV e f a = 1 ∨ kindV e f a = 2) (hs : (a / pw (e + f)) = 0) (w : World) : Calls Tryd.prog 19 #[fmt e f, .int .i64 a] w (ARboth (fun r => r = sgW e f a) w) := by
  obtain ⟨hgg, a0, a1⟩ := pat_iff.1 hg
  have fa : finB e f a = true := by rcases kind_parts hg with ⟨k, _⟩ | ⟨k, _⟩ | ⟨_, q, _⟩ | ⟨_, q, _⟩ <;> first | exact q | omega
  have na : unitsV e f a ≠ 0 := (kind_units hg).2.1 ha
  have u1 := un_bd hgg
  have ub := units_bd e f a hg
  obtain ⟨ua1, ua2, ua3, ua4, _⟩ := un_small hg
  have ua5 := ua4 na
  have on : ((odV (unitsV e f a)).natAbs : Int) ≠ 0 := fun h => na ((od_sign (S := (unitsV e f a)) (by omega) (by omega)).2.1 (by omega))
  obtain ⟨L1, b1, b2⟩ := pl_bd ((odV (unitsV e f a)).natAbs : Int) on (by omega) (by omega)
  have L2 : plV ((odV (unitsV e f a)).natAbs : Int) ≤ 12 := pl_le ((odV (unitsV e f a)).natAbs : Int) 12 (by decide) (by decide) (by rw [show pw 12 = 4096 from rfl]; omega)
  have SB := si_bd (n := ((odV (unitsV e f a)).natAbs : Int)) (x := (shE (unitsV e f a) (unV e f))) (by omega) (by omega) (by omega) (by omega)
  have SV : (siV ((odV (unitsV e f a)).natAbs : Int) (shE (unitsV e f a) (unV e f))) = ((shE (unitsV e f a) (unV e f)) + plV ((odV (unitsV e f a)).natAbs : Int) + 126) * 8388608 + ((odV (unitsV e f a)).natAbs : Int) * pw (24 - plV ((odV (unitsV e f a)).natAbs : Int)) - 8388608 := if_neg on
  rw [SV] at SB
  have p1 := pw_pos (24 - plV ((odV (unitsV e f a)).natAbs : Int))
  have p2 : pw (24 - plV ((odV (unitsV e f a)).natAbs : Int)) ≤ 8388608 := pw_le 23 8388608 rfl (by omega)
  have q1 : 0 ≤ ((odV (unitsV e f a)).natAbs : Int) * pw (24 - plV ((odV (unitsV e f a)).natAbs : Int)) := Int.mul_nonneg (by omega) (by omega)
  have q2 : ((odV (unitsV e f a)).natAbs : Int) * pw (24 - plV ((odV (unitsV e f a)).natAbs : Int)) ≤ 2048 * 8388608 := Int.mul_le_mul (by omega) p2 (by omega) (by omega)
  have VAL : sgW e f a = 0 + (((shE (unitsV e f a) (unV e f)) + plV ((odV (unitsV e f a)).natAbs : Int) + 126) * 8388608 + ((odV (unitsV e f a)).natAbs : Int) * pw (24 - plV ((odV (unitsV e f a)).natAbs : Int)) - 8388608) := by
    unfold sgW
    rw [if_neg (by omega), if_neg (by omega), hs, SV]
    omega
  have FS := Lib.hid (fun w => by have := fmSign_any e f a hgg a0 w; rw [hs] at this; exact this)
  have fk : ∃ k : Int, kindV e f a = k ∧ (k == 4) = false ∧ (k == 3) = false ∧ (k == 0) = false := ⟨_, rfl, by simp; omega, by simp; omega, by simp; omega⟩
  obtain ⟨k, hk, k4, k3, k0⟩ := fk
  have FK := Lib.hid (fun w => by have := fmKind_any e f a hg w; rw [hk] at this; exact this)
  have LA := Lib.hid (fun w => l1Abs_nat (odV (unitsV e f a)) (by omega) (by omega) w)
  have RB := Lib.hid (fun w => rdBits_any ((odV (unitsV e f a)).natAbs : Int) (by omega) (by omega) w)
  clear hk ha hs SV ub na on
  generalize ((odV (unitsV e f a)).natAbs : Int) = N at *
  have w1 : IntKind.i64.wrap ((shE (unitsV e f a) (unV e f)) + plV N) = (shE (unitsV e f a) (unV e f)) + plV N := IntWalk.i64_in _ (by omega)
  have w2 : IntKind.i64.wrap ((shE (unitsV e f a) (unV e f)) + plV N - 1) = (shE (unitsV e f a) (unV e f)) + plV N - 1 := IntWalk.i64_in _ (by omega)
  have w3 : IntKind.i64.wrap ((shE (unitsV e f a) (unV e f)) + plV N - 1 + 127) = (shE (unitsV e f a) (unV e f)) + plV N - 1 + 127 := IntWalk.i64_in _ (by omega)
  have w4 : IntKind.i64.wrap (((shE (unitsV e f a) (unV e f)) + plV N - 1 + 127) * 8388608) = ((shE (unitsV e f a) (unV e f)) + plV N - 1 + 127) * 8388608 := IntWalk.i64_in _ (by omega)
  have w5 : IntKind.i64.wrap (24 - plV N) = 24 - plV N := IntWalk.i64_in _ (by omega)
  have w6 : min (24 - plV N).toNat 64 = (24 - plV N).toNat := by omega
  have w7 := pw_of (24 - plV N)
  have w8 : IntKind.i64.wrap (N * pw (24 - plV N)) = N * pw (24 - plV N) := IntWalk.i64_in _ (by omega)
  have w9 : ¬ 24 - plV N < 0 := by omega
  have wa : IntKind.i64.wrap (0 + ((shE (unitsV e f a) (unV e f)) + plV N - 1 + 127) * 8388608) = 0 + ((shE (unitsV e f a) (unV e f)) + plV N - 1 + 127) * 8388608 := IntWalk.i64_in _ (by omega)
  have wb : IntKind.i64.wrap (0 + ((shE (unitsV e f a) (unV e f)) + plV N - 1 + 127) * 8388608 + N * pw (24 - plV N)) = 0 + ((shE (unitsV e f a) (unV e f)) + plV N - 1 + 127) * 8388608 + N * pw (24 - plV N) := IntWalk.i64_in _ (by omega)
  have wc : IntKind.i64.wrap (0 + ((shE (unitsV e f a) (unV e f)) + plV N - 1 + 127) * 8388608 + N * pw (24 - plV N) - 8388608) = 0 + ((shE (unitsV e f a) (unV e f)) + plV N - 1 + 127) * 8388608 + N * pw (24 - plV N) - 8388608 := IntWalk.i64_in _ (by omega)
  have wd : IntKind.i64.wrap (((shE (unitsV e f a) (unV e f)) + plV N - 1 + 127) * 8388608 + N * pw (24 - plV N)) = ((shE (unitsV e f a) (unV e f)) + plV N - 1 + 127) * 8388608 + N * pw (24 - plV N) := IntWalk.i64_in _ (by omega)
  have we : IntKind.i64.wrap (((shE (unitsV e f a) (unV e f)) + plV N - 1 + 127) * 8388608 + N * pw (24 - plV N) - 8388608) = ((shE (unitsV e f a) (unV e f)) + plV N - 1 + 127) * 8388608 + N * pw (24 - plV N) - 8388608 := IntWalk.i64_in _ (by omega)
  have HV := Lib.hid VAL
  clear VAL SB p1 p2 q1 q2 L1 L2 b1 b2 ua1 ua2 ua3 ua4 ua5 u1
  go_enter Tryd.func19, Tryd.ntmps19
  go_wp2_with (first | (go_at_call 48; refine (fmIs_any e f a _).mono ?_; rintro rv w1 ⟨rfl, hb⟩; have ns : w.heap.size < w1.heap.size := hb.lt (by first | with_reducible assumption | omega | (simp; done) | (simp; omega)); have n0 : w1.cell? ⟨w.heap.size, 0, none⟩ = some (.int .i64 e) := (hb.cells _ _ (by first | with_reducible assumption | omega | (simp; done) | (simp; omega))).trans (by first | with_reducible assumption | (simp; done) | (simp; with_reducible assumption) | (rw [cell_alloc_before _ _ _ _ (by omega)]; with_reducible assumption) | (simp [go_sem, *]; done)); have n1 : w1.cell? ⟨w.heap.size, 1, none⟩ = some (.int .i64 f) := (hb.cells _ _ (by first | with_reducible assumption | omega | (simp; done) | (simp; omega))).trans (by first | with_reducible assumption | (simp; done) | (simp; with_reducible assumption) | (rw [cell_alloc_before _ _ _ _ (by omega)]; with_reducible assumption) | (simp [go_sem, *]; done)); (first | (have nx := Ext.trans hx hb; clear hx) | (have nx := Ext.trans (hx.alloc _) hb; clear hx) | (have nx := Ext.trans hx.drew hb; clear hx) | have nx := hb); clear hb; try clear hs; try clear g0; try clear g1; have hx := nx; clear nx; have hs := ns; clear ns; have g0 := n0; clear n0; have g1 := n1; clear n1) | (go_at_call 49; (with_reducible refine (FS.out _).mono ?_); rintro rv w1 ⟨rfl, hb⟩; have ns : w.heap.size < w1.heap.size := hb.lt (by first | with_reducible assumption | omega | (simp; done) | (simp; omega)); have n0 : w1.cell? ⟨w.heap.size, 0, none⟩ = some (.int .i64 e) := (hb.cells _ _ (by first | with_reducible assumption | omega | (simp; done) | (simp; omega))).trans (by first | with_reducible assumption | (simp; done) | (simp; with_reducible assumption) | (rw [cell_alloc_before _ _ _ _ (by omega)]; with_reducible assumption) | (simp [go_sem, *]; done)); have n1 : w1.cell? ⟨w.heap.size, 1, none⟩ = some (.int .i64 f) := (hb.cells _ _ (by first | with_reducible assumption | omega | (simp; done) | (simp; omega))).trans (by first | with_reducible assumption | (simp; done) | (simp; with_reducible assumption) | (rw [cell_alloc_before _ _ _ _ (by omega)]; with_reducible assumption) | (simp [go_sem, *]; done)); (first | (have nx := Ext.trans hx hb; clear hx) | (have nx := Ext.trans (hx.alloc _) hb; clear hx) | (have nx := Ext.trans hx.drew hb; clear hx) | have nx := hb); clear hb; try clear hs; try clear g0; try clear g1; have hx := nx; clear nx; have hs := ns; clear ns; have g0 := n0; clear n0; have g1 := n1; clear n1) | (go_at_call 50; (with_reducible refine (FK.out _).mono ?_); rintro rv w1 ⟨rfl, hb⟩; have ns : w.heap.size < w1.heap.size := hb.lt (by first | with_reducible assumption | omega | (simp; done) | (simp; omega)); have n0 : w1.cell? ⟨w.heap.size, 0, none⟩ = some (.int .i64 e) := (hb.cells _ _ (by first | with_reducible assumption | omega | (simp; done) | (simp; omega))).trans (by first | with_reducible assumption | (simp; done) | (simp; with_reducible assumption) | (rw [cell_alloc_before _ _ _ _ (by omega)]; with_reducible assumption) | (simp [go_sem, *]; done)); have n1 : w1.cell? ⟨w.heap.size, 1, none⟩ = some (.int .i64 f) := (hb.cells _ _ (by first | with_reducible assumption | omega | (simp; done) | (simp; omega))).trans (by first | with_reducible assumption | (simp; done) | (simp; with_reducible assumption) | (rw [cell_alloc_before _ _ _ _ (by omega)]; with_reducible assumption) | (simp [go_sem, *]; done)); (first | (have nx := Ext.trans hx hb; clear hx) | (have nx := Ext.trans (hx.alloc _) hb; clear hx) | (have nx := Ext.trans hx.drew hb; clear hx) | have nx := hb); clear hb; try clear hs; try clear g0; try clear g1; have hx := nx; clear nx; have hs := ns; clear ns; have g0 := n0; clear n0; have g1 := n1; clear n1) | (go_at_call 44; refine (rdValue_any e f a fa _).mono ?_; rintro rv wv ⟨rfl, hb⟩; have hv : w.heap.size < wv.heap.size := hb.lt (by first | with_reducible assumption | omega | (simp; done) | (simp; omega)); have ns : w.heap.size < wv.heap.size := hb.lt (by first | with_reducible assumption | omega | (simp; done) | (simp; omega)); have n0 : wv.cell? ⟨w.heap.size, 0, none⟩ = some (.int .i64 e) := (hb.cells _ _ (by first | with_reducible assumption | omega | (simp; done) | (simp; omega))).trans (by first | with_reducible assumption | (simp; done) | (simp; with_reducible assumption) | (rw [cell_alloc_before _ _ _ _ (by omega)]; with_reducible assumption) | (simp [go_sem, *]; done)); have n1 : wv.cell? ⟨w.heap.size, 1, none⟩ = some (.int .i64 f) := (hb.cells _ _ (by first | with_reducible assumption | omega | (simp; done) | (simp; omega))).trans (by first | with_reducible assumption | (simp; done) | (simp; with_reducible assumption) | (rw [cell_alloc_before _ _ _ _ (by omega)]; with_reducible assumption) | (simp [go_sem, *]; done)); (first | (have nx := Ext.trans hx hb; clear hx) | (have nx := Ext.trans (hx.alloc _) hb; clear hx) | (have nx := Ext.trans hx.drew hb; clear hx) | have nx := hb); clear hb; try clear hs; try clear g0; try clear g1; have hx := nx; clear nx; have hs := ns; clear ns; have g0 := n0; clear n0; have g1 := n1; clear n1) | (go_at_call 51; refine (LA.out _).mono ?_; rintro rv w1 ⟨rfl, rfl⟩) | (go_at_call 52; refine (RB.out _).mono ?_; rintro rv w1 ⟨rfl, rfl⟩))
  try (go_quiet (fail); go_wp2_with fail)
  go_ret2
  exact ⟨_, rfl, by rw [HV.out]; omega, (by repeat (first | exact Ext.refl _ | with_reducible assumption | apply Ext.alloc | apply Ext.drew | apply Ext.drewN | (refine Ext.setRow ?_ (by first | (simp; done) | (simp; omega) | omega) _) | (refine Ext.setCell ?_ (by first | (simp; done) | (simp; omega) | omega) _) | (refine Ext.trans ?_ (by with_reducible assumption))))⟩

set_option maxHeartbeats 3200000 in
theorem sSingleOf_f1 (e f a : Int) (hg : patB e f a = true) (ha : kindV e f a = 1 ∨ kindV e f a = 2) (hs : (a / pw (e + f)) = 1) (w : World) : Calls Tryd.prog 19 #[fmt e f, .int .i64 a] w (ARboth (fun r => r = sgW e f a) w) := by
  obtain ⟨hgg, a0, a1⟩ := pat_iff.1 hg
  have fa : finB e f a = true := by rcases kind_parts hg with ⟨k, _⟩ | ⟨k, _⟩ | ⟨_, q, _⟩ | ⟨_, q, _⟩ <;> first | exact q | omega
  have na : unitsV e f a ≠ 0 := (kind_units hg).2.1 ha
  have u1 := un_bd hgg
  have ub := units_bd e f a hg
  obtain ⟨ua1, ua2, ua3, ua4, _⟩ := un_small hg
  have ua5 := ua4 na
  have on : ((odV (unitsV e f a)).natAbs : Int) ≠ 0 := fun h => na ((od_sign (S := (unitsV e f a)) (by omega) (by omega)).2.1 (by omega))
  obtain ⟨L1, b1, b2⟩ := pl_bd ((odV (unitsV e f a)).natAbs : Int) on (by omega) (by omega)
  have L2 : plV ((odV (unitsV e f a)).natAbs : Int) ≤ 12 := pl_le ((odV (unitsV e f a)).natAbs : Int) 12 (by decide) (by decide) (by rw [show pw 12 = 4096 from rfl]; omega)
  have SB := si_bd (n := ((odV (unitsV e f a)).natAbs : Int)) (x := (shE (unitsV e f a) (unV e f))) (by omega) (by omega) (by omega) (by omega)
  have SV : (siV ((odV (unitsV e f a)).natAbs : Int) (shE (unitsV e f a) (unV e f))) = ((shE (unitsV e f a) (unV e f)) + plV ((odV (unitsV e f a)).natAbs : Int) + 126) * 8388608 + ((odV (unitsV e f a)).natAbs : Int) * pw (24 - plV ((odV (unitsV e f a)).natAbs : Int)) - 8388608 := if_neg on
  rw [SV] at SB
  have p1 := pw_pos (24 - plV ((odV (unitsV e f a)).natAbs : Int))
  have p2 : pw (24 - plV ((odV (unitsV e f a)).natAbs : Int)) ≤ 8388608 := pw_le 23 8388608 rfl (by omega)
  have q1 : 0 ≤ ((odV (unitsV e f a)).natAbs : Int) * pw (24 - plV ((odV (unitsV e f a)).natAbs : Int)) := Int.mul_nonneg (by omega) (by omega)
  have q2 : ((odV (unitsV e f a)).natAbs : Int) * pw (24 - plV ((odV (unitsV e f a)).natAbs : Int)) ≤ 2048 * 8388608 := Int.mul_le_mul (by omega) p2 (by omega) (by omega)
  have VAL : sgW e f a = 2147483648 + (((shE (unitsV e f a) (unV e f)) + plV ((odV (unitsV e f a)).natAbs : Int) + 126) * 8388608 + ((odV (unitsV e f a)).natAbs : Int) * pw (24 - plV ((odV (unitsV e f a)).natAbs : Int)) - 8388608) := by
    unfold sgW
    rw [if_neg (by omega), if_neg (by omega), hs, SV]
    omega
  have FS := Lib.hid (fun w => by have := fmSign_any e f a hgg a0 w; rw [hs] at this; exact this)
  have fk : ∃ k : Int, kindV e f a = k ∧ (k == 4) = false ∧ (k == 3) = false ∧ (k == 0) = false := ⟨_, rfl, by simp; omega, by simp; omega, by simp; omega⟩
  obtain ⟨k, hk, k4, k3, k0⟩ := fk
  have FK := Lib.hid (fun w => by have := fmKind_any e f a hg w; rw [hk] at this; exact this)
  have LA := Lib.hid (fun w => l1Abs_nat (odV (unitsV e f a)) (by omega) (by omega) w)
  have RB := Lib.hid (fun w => rdBits_any ((odV (unitsV e f a)).natAbs : Int) (by omega) (by omega) w)
  clear hk ha hs SV ub na on
  generalize ((odV (unitsV e f a)).natAbs : Int) = N at *
  have w1 : IntKind.i64.wrap ((shE (unitsV e f a) (unV e f)) + plV N) = (shE (unitsV e f a) (unV e f)) + plV N := IntWalk.i64_in _ (by omega)
  have w2 : IntKind.i64.wrap ((shE (unitsV e f a) (unV e f)) + plV N - 1) = (shE (unitsV e f a) (unV e f)) + plV N - 1 := IntWalk.i64_in _ (by omega)
  have w3 : IntKind.i64.wrap ((shE (unitsV e f a) (unV e f)) + plV N - 1 + 127) = (shE (unitsV e f a) (unV e f)) + plV N - 1 + 127 := IntWalk.i64_in _ (by omega)
  have w4 : IntKind.i64.wrap (((shE (unitsV e f a) (unV e f)) + plV N - 1 + 127) * 8388608) = ((shE (unitsV e f a) (unV e f)) + plV N - 1 + 127) * 8388608 := IntWalk.i64_in _ (by omega)
  have w5 : IntKind.i64.wrap (24 - plV N) = 24 - plV N := IntWalk.i64_in _ (by omega)
  have w6 : min (24 - plV N).toNat 64 = (24 - plV N).toNat := by omega
  have w7 := pw_of (24 - plV N)
  have w8 : IntKind.i64.wrap (N * pw (24 - plV N)) = N * pw (24 - plV N) := IntWalk.i64_in _ (by omega)
  have w9 : ¬ 24 - plV N < 0 := by omega
  have wa : IntKind.i64.wrap (2147483648 + ((shE (unitsV e f a) (unV e f)) + plV N - 1 + 127) * 8388608) = 2147483648 + ((shE (unitsV e f a) (unV e f)) + plV N - 1 + 127) * 8388608 := IntWalk.i64_in _ (by omega)
  have wb : IntKind.i64.wrap (2147483648 + ((shE (unitsV e f a) (unV e f)) + plV N - 1 + 127) * 8388608 + N * pw (24 - plV N)) = 2147483648 + ((shE (unitsV e f a) (unV e f)) + plV N - 1 + 127) * 8388608 + N * pw (24 - plV N) := IntWalk.i64_in _ (by omega)
  have wc : IntKind.i64.wrap (2147483648 + ((shE (unitsV e f a) (unV e f)) + plV N - 1 + 127) * 8388608 + N * pw (24 - plV N) - 8388608) = 2147483648 + ((shE (unitsV e f a) (unV e f)) + plV N - 1 + 127) * 8388608 + N * pw (24 - plV N) - 8388608 := IntWalk.i64_in _ (by omega)
  have wd : IntKind.i64.wrap (((shE (unitsV e f a) (unV e f)) + plV N - 1 + 127) * 8388608 + N * pw (24 - plV N)) = ((shE (unitsV e f a) (unV e f)) + plV N - 1 + 127) * 8388608 + N * pw (24 - plV N) := IntWalk.i64_in _ (by omega)
  have we : IntKind.i64.wrap (((shE (unitsV e f a) (unV e f)) + plV N - 1 + 127) * 8388608 + N * pw (24 - plV N) - 8388608) = ((shE (unitsV e f a) (unV e f)) + plV N - 1 + 127) * 8388608 + N * pw (24 - plV N) - 8388608 := IntWalk.i64_in _ (by omega)
  have HV := Lib.hid VAL
  clear VAL SB p1 p2 q1 q2 L1 L2 b1 b2 ua1 ua2 ua3 ua4 ua5 u1
  go_enter Tryd.func19, Tryd.ntmps19
  go_wp2_with (first | (go_at_call 48; refine (fmIs_any e f a _).mono ?_; rintro rv w1 ⟨rfl, hb⟩; have ns : w.heap.size < w1.heap.size := hb.lt (by first | with_reducible assumption | omega | (simp; done) | (simp; omega)); have n0 : w1.cell? ⟨w.heap.size, 0, none⟩ = some (.int .i64 e) := (hb.cells _ _ (by first | with_reducible assumption | omega | (simp; done) | (simp; omega))).trans (by first | with_reducible assumption | (simp; done) | (simp; with_reducible assumption) | (rw [cell_alloc_before _ _ _ _ (by omega)]; with_reducible assumption) | (simp [go_sem, *]; done)); have n1 : w1.cell? ⟨w.heap.size, 1, none⟩ = some (.int .i64 f) := (hb.cells _ _ (by first | with_reducible assumption | omega | (simp; done) | (simp; omega))).trans (by first | with_reducible assumption | (simp; done) | (simp; with_reducible assumption) | (rw [cell_alloc_before _ _ _ _ (by omega)]; with_reducible assumption) | (simp [go_sem, *]; done)); (first | (have nx := Ext.trans hx hb; clear hx) | (have nx := Ext.trans (hx.alloc _) hb; clear hx) | (have nx := Ext.trans hx.drew hb; clear hx) | have nx := hb); clear hb; try clear hs; try clear g0; try clear g1; have hx := nx; clear nx; have hs := ns; clear ns; have g0 := n0; clear n0; have g1 := n1; clear n1) | (go_at_call 49; (with_reducible refine (FS.out _).mono ?_); rintro rv w1 ⟨rfl, hb⟩; have ns : w.heap.size < w1.heap.size := hb.lt (by first | with_reducible assumption | omega | (simp; done) | (simp; omega)); have n0 : w1.cell? ⟨w.heap.size, 0, none⟩ = some (.int .i64 e) := (hb.cells _ _ (by first | with_reducible assumption | omega | (simp; done) | (simp; omega))).trans (by first | with_reducible assumption | (simp; done) | (simp; with_reducible assumption) | (rw [cell_alloc_before _ _ _ _ (by omega)]; with_reducible assumption) | (simp [go_sem, *]; done)); have n1 : w1.cell? ⟨w.heap.size, 1, none⟩ = some (.int .i64 f) := (hb.cells _ _ (by first | with_reducible assumption | omega | (simp; done) | (simp; omega))).trans (by first | with_reducible assumption | (simp; done) | (simp; with_reducible assumption) | (rw [cell_alloc_before _ _ _ _ (by omega)]; with_reducible assumption) | (simp [go_sem, *]; done)); (first | (have nx := Ext.trans hx hb; clear hx) | (have nx := Ext.trans (hx.alloc _) hb; clear hx) | (have nx := Ext.trans hx.drew hb; clear hx) | have nx := hb); clear hb; try clear hs; try clear g0; try clear g1; have hx := nx; clear nx; have hs := ns; clear ns; have g0 := n0; clear n0; have g1 := n1; clear n1) | (go_at_call 50; (with_reducible refine (FK.out _).mono ?_); rintro rv w1 ⟨rfl, hb⟩; have ns : w.heap.size < w1.heap.size := hb.lt (by first | with_reducible assumption | omega | (simp; done) | (simp; omega)); have n0 : w1.cell? ⟨w.heap.size, 0, none⟩ = some (.int .i64 e) := (hb.cells _ _ (by first | with_reducible assumption | omega | (simp; done) | (simp; omega))).trans (by first | with_reducible assumption | (simp; done) | (simp; with_reducible assumption) | (rw [cell_alloc_before _ _ _ _ (by omega)]; with_reducible assumption) | (simp [go_sem, *]; done)); have n1 : w1.cell? ⟨w.heap.size, 1, none⟩ = some (.int .i64 f) := (hb.cells _ _ (by first | with_reducible assumption | omega | (simp; done) | (simp; omega))).trans (by first | with_reducible assumption | (simp; done) | (simp; with_reducible assumption) | (rw [cell_alloc_before _ _ _ _ (by omega)]; with_reducible assumption) | (simp [go_sem, *]; done)); (first | (have nx := Ext.trans hx hb; clear hx) | (have nx := Ext.trans (hx.alloc _) hb; clear hx) | (have nx := Ext.trans hx.drew hb; clear hx) | have nx := hb); clear hb; try clear hs; try clear g0; try clear g1; have hx := nx; clear nx; have hs := ns; clear ns; have g0 := n0; clear n0; have g1 := n1; clear n1) | (go_at_call 44; refine (rdValue_any e f a fa _).mono ?_; rintro rv wv ⟨rfl, hb⟩; have hv : w.heap.size < wv.heap.size := hb.lt (by first | with_reducible assumption | omega | (simp; done) | (simp; omega)); have ns : w.heap.size < wv.heap.size := hb.lt (by first | with_reducible assumption | omega | (simp; done) | (simp; omega)); have n0 : wv.cell? ⟨w.heap.size, 0, none⟩ = some (.int .i64 e) := (hb.cells _ _ (by first | with_reducible assumption | omega | (simp; done) | (simp; omega))).trans (by first | with_reducible assumption | (simp; done) | (simp; with_reducible assumption) | (rw [cell_alloc_before _ _ _ _ (by omega)]; with_reducible assumption) | (simp [go_sem, *]; done)); have n1 : wv.cell? ⟨w.heap.size, 1, none⟩ = some (.int .i64 f) := (hb.cells _ _ (by first | with_reducible assumption | omega | (simp; done) | (simp; omega))).trans (by first | with_reducible assumption | (simp; done) | (simp; with_reducible assumption) | (rw [cell_alloc_before _ _ _ _ (by omega)]; with_reducible assumption) | (simp [go_sem, *]; done)); (first | (have nx := Ext.trans hx hb; clear hx) | (have nx := Ext.trans (hx.alloc _) hb; clear hx) | (have nx := Ext.trans hx.drew hb; clear hx) | have nx := hb); clear hb; try clear hs; try clear g0; try clear g1; have hx := nx; clear nx; have hs := ns; clear ns; have g0 := n0; clear n0; have g1 := n1; clear n1) | (go_at_call 51; refine (LA.out _).mono ?_; rintro rv w1 ⟨rfl, rfl⟩) | (go_at_call 52; refine (RB.out _).mono ?_; rintro rv w1 ⟨rfl, rfl⟩))
  try (go_quiet (fail); go_wp2_with fail)
  go_ret2
  exact ⟨_, rfl, by rw [HV.out]; omega, (by repeat (first | exact Ext.refl _ | with_reducible assumption | apply Ext.alloc | apply Ext.drew | apply Ext.drewN | (refine Ext.setRow ?_ (by first | (simp; done) | (simp; omega) | omega) _) | (refine Ext.setCell ?_ (by first | (simp; done) | (simp; omega) | omega) _) | (refine Ext.trans ?_ (by with_reducible assumption))))⟩

theorem sSingleOf_yes (e f a : Int) (hg : patB e f a = true) (w : World) : Calls Tryd.prog 19 #[fmt e f, .int .i64 a] w (ARboth (fun r => r = sgW e f a) w) := by
  rcases sign_01 hg with hs | hs
  · rcases kind_parts hg with ⟨h, _⟩ | ⟨h, _⟩ | ⟨h, _⟩ | ⟨h, _⟩
    · exact sSingleOf_x0 e f a hg h hs w
    · exact sSingleOf_i0 e f a hg h hs w
    · exact sSingleOf_z0 e f a hg h hs w
    · exact sSingleOf_f0 e f a hg h hs w
  · rcases kind_parts hg with ⟨h, _⟩ | ⟨h, _⟩ | ⟨h, _⟩ | ⟨h, _⟩
    · exact sSingleOf_x1 e f a hg h hs w
    · exact sSingleOf_i1 e f a hg h hs w
    · exact sSingleOf_z1 e f a hg h hs w
    · exact sSingleOf_f1 e f a hg h hs w
end Go.Proofs.YtcbkhlaiefiieacDoor

