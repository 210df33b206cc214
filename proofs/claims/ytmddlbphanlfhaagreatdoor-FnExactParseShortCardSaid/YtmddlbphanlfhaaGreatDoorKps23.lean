/-
  Contracts of the functions that the laws reach, and the plain facts that they rest on, each under the conditions that its line names; part 23.
-/
import Derived.Test.YtmddlbphanlfhaaGreatDoorKps1
import Derived.Test.YtmddlbphanlfhaaGreatDoorKps2
import Derived.Test.YtmddlbphanlfhaaGreatDoorKps3
import Derived.Test.YtmddlbphanlfhaaGreatDoorKps4
import Derived.Test.YtmddlbphanlfhaaGreatDoorKps5
import Derived.Test.YtmddlbphanlfhaaGreatDoorKps11
import Derived.Test.YtmddlbphanlfhaaGreatDoorKps12
import Derived.Test.YtmddlbphanlfhaaGreatDoorKps13
import Derived.Test.YtmddlbphanlfhaaGreatDoorKps14
import Derived.Test.YtmddlbphanlfhaaGreatDoorKps15
import Derived.Test.YtmddlbphanlfhaaGreatDoorKps16
import Derived.Test.YtmddlbphanlfhaaGreatDoorKps17
import Derived.Test.YtmddlbphanlfhaaGreatDoorKps19
import Derived.Test.YtmddlbphanlfhaaGreatDoorKps21
import Derived.Test.YtmddlbphanlfhaaGreatDoorKps22
import Derived.Test.YtmddlbphanlfhaaGreatDoorRows
import Derived.WalkKit
import Derived.LoopTactic
import Derived.Laws.Bits64b
import Derived.WalkSpells
import Derived.WalkLawsBesides
import Derived.StillTactics
import Derived.Laws.Pointers
import Derived.Deep.RegionHeld3
import Derived.Deep.QuietTactic
import Derived.BigQuiet
import Derived.Outline
import Derived.Lib.Hide
import Derived.RowKit3
import Derived.Carry
import Derived.IntWalk
namespace Go.Proofs.YtmddlbphanlfhaaGreatDoor
open Go Go.RowKit
set_option linter.unusedSimpArgs false
set_option linter.unusedVariables false

theorem ldexp_c (c b : Nat) (k : Int) (h0 : 0 < c) (h1 : c < 16777216) (hb : b ≤ 40) (hk : -200 ≤ k) (hk2 : k ≤ 200) (w : World) :
    Calls Tryz.prog 203 #[.float .f64 (fw Ieee.double (c * 2 ^ (1074 + b))), .int .i64 k] w fun rv w' => rv = .returned (.float .f64 (fw Ieee.double (c * 2 ^ ((1074 + (b : Int) + k).toNat)))) ∧ w = w' := by
  have l0 : 2 ^ c.log2 ≤ c := Nat.log2_self_le (by omega)
  have l1 : c < 2 ^ (c.log2 + 1) := Nat.lt_log2_self
  have lt : c.log2 < 24 := (Nat.log2_lt (by omega)).2 (by omega)
  obtain ⟨j, hj⟩ : ∃ j : Nat, ((j : Nat) : Int) = 1074 + (b : Int) + k := ⟨(1074 + (b : Int) + k).toNat, by omega⟩
  rw [show (1074 + (b : Int) + k).toNat = j by omega]
  generalize c.log2 = t at *
  obtain ⟨w1, hM⟩ := word64 c t l0 l1 (by omega) (1074 + b) (by omega) (by omega)
  obtain ⟨w2, _⟩ := word64 c t l0 l1 (by omega) j (by omega) (by omega)
  have hm : FloatKind.f64.format.mul 4607182418800017408 (fw Ieee.double (c * 2 ^ j)) = some (fw Ieee.double (c * 2 ^ j)) := one_mul64 (ok64 (by omega) (by omega))
  have e52 : (2 : Nat) ^ 52 = 4503599627370496 := by decide
  rw [e52] at w1 w2 hM
  exact ldexp_word _ _ _ _ _ k hM (by omega) (by omega) (by omega) (by omega) (by omega) w1 w2 hm w

theorem ldexp_zero (k : Int) (w : World) : Calls Tryz.prog 203 #[.float .f64 0, .int .i64 k] w fun rv w' => rv = .returned (.float .f64 0) ∧ w = w' := by
  have o1 : FloatKind.f64.format.order 0 0 = some .eq := by
    rw [order_pos (by rw [inf64]; decide) (by rw [inf64]; decide), cmp_eq rfl]
  go_enter Tryz.func203, Tryz.ntmps203
  go_wp2
  go_ret
  exact ⟨rfl, rfl⟩

theorem ldexpW_any (x y : Nat) (k : Int) (w : World) (h : Calls Tryz.prog 203 #[.float .f64 x, .int .i64 k] w fun rv w' => rv = .returned (.float .f64 y) ∧ w = w') : Calls Tryz.prog 192 #[.float .f64 x, .int .i64 k] w fun rv w' => rv = .returned (.float .f64 y) ∧ w = w' := by
  have H := Lib.hid h; clear h
  go_enter Tryz.func192, Tryz.ntmps192
  go_wp2_with (go_at_call 203; refine (H.out).mono ?_; rintro rv w1 ⟨rfl, rfl⟩)
  go_ret
  exact ⟨rfl, rfl⟩

theorem front24_any (m : Int) (hm0 : 0 ≤ m) (hm1 : m < 4611686018427387904) (w : World) : Calls Tryz.prog 200 #[.int .i64 m, .int .i64 24] w fun rv w' => rv = .returned (.int .i64 (if plV m ≤ 24 then m else m / pw (plV m - 24) * pw (plV m - 24))) ∧ w = w' := by
  have hk : m.toNat = m.natAbs := by omega
  have L0 := pl_nn m
  have L1 : plV m ≤ 62 := pl_le m 62 (by decide) (by decide) (by rw [show pw 62 = 4611686018427387904 from rfl]; omega)
  have HL : ((Lib.bitLen m.toNat : Nat) : Int) = plV m := by unfold plV; rw [hk]
  by_cases hp : plV m ≤ 24
  · rw [if_pos hp]
    have k1 : max (((Lib.bitLen m.toNat : Nat) : Int) - 24) 0 = 0 := by omega
    have k2 : IntKind.i64.wrap (((Lib.bitLen m.toNat : Nat) : Int) - 24) = ((Lib.bitLen m.toNat : Nat) : Int) - 24 := IntWalk.i64_in _ (by omega)
    have hb1 : ((Lib.bitLen m.toNat : Nat) : Int) ≤ 24 := by omega
    clear hk HL
    go_enter Tryz.func200, Tryz.ntmps200
    go_wp2_with (go_at_call 208; refine (Tryz.bits_Len _ _ (by omega) (by omega)).mono ?_; rintro rv w1 ⟨rfl, rfl⟩)
    go_ret
    exact ⟨ret_int (by first | rfl | (simp; done) | (simp; omega)), rfl⟩
  · rw [if_neg hp]
    obtain ⟨b, hb⟩ : ∃ b : Nat, plV m - 24 = b := ⟨(plV m - 24).toNat, by omega⟩
    rw [hb]
    have hn0 : m ≠ 0 := by intro h; subst h; rw [pl_zero] at hp; omega
    obtain ⟨b1, b2, b3⟩ := pl_bd m hn0 (by omega) (by omega)
    have hnn : (m.natAbs : Int) = m := by omega
    rw [hnn] at b2 b3
    have hd := Int.mul_ediv_add_emod m (pw b)
    have hB := pw_pos (b : Int)
    have hr0 := Int.emod_nonneg m (show pw b ≠ 0 by omega)
    have hc : pw b * (m / pw b) = m / pw b * pw b := Int.mul_comm _ _
    have q0 : 0 ≤ m / pw b := Int.ediv_nonneg hm0 (by omega)
    have q1 : m / pw b * pw b ≤ m := by omega
    have q2 : 0 ≤ m / pw b * pw b := Int.mul_nonneg q0 (by omega)
    have k2 : IntKind.i64.wrap (((Lib.bitLen m.toNat : Nat) : Int) - 24) = (b : Int) := by rw [IntWalk.i64_in _ (by omega)]; omega
    have k3 : max (b : Int) 0 = (b : Int) := by omega
    have k4 := pw_of (b : Int)
    rw [show ((b : Int)).toNat = b by omega] at k4
    have k5 : IntKind.i64.wrap (m / pw b * pw b) = m / pw b * pw b := IntWalk.i64_in _ (by omega)
    have hb2 : (b : Int) ≤ 40 := by omega
    clear hk HL hb hp b1 b2 b3 hnn hd hr0 hc L0 L1 hn0
    go_enter Tryz.func200, Tryz.ntmps200
    go_wp2_with (go_at_call 208; refine (Tryz.bits_Len _ _ (by omega) (by omega)).mono ?_; rintro rv w1 ⟨rfl, rfl⟩)
    go_ret
    exact ⟨ret_int (by first | rfl | (trace_state; simp; done)), rfl⟩

theorem oddPlaces_any (u : Int) (h0 : 0 ≤ u) (h1 : u < 4611686018427387904) (w : World) : Calls Tryz.prog 191 #[.int .i64 u, .int .i64 24] w fun rv w' => rv = .returned (.int .i64 (kpV u)) ∧ w = w' := by
  have L0 := pl_nn u
  have L1 : plV u ≤ 62 := pl_le u 62 (by decide) (by decide) (by rw [show pw 62 = 4611686018427387904 from rfl]; omega)
  by_cases hp : plV u ≤ 24
  · have k1 : (if plV u ≤ 24 then u else u / pw (plV u - 24) * pw (plV u - 24)) = u := if_pos hp
    have k2 : kpV u = u := by unfold kpV; rw [if_pos hp]
    have K1 := Lib.hid k1; have K2 := Lib.hid k2; clear k1 k2
    have FRC := Lib.hid (fun w => by have := front24_any u h0 h1 w; rw [K1.out] at this; exact this)
    have z : (u == u) = true := by simp
    clear hp
    go_enter Tryz.func191, Tryz.ntmps191
    go_wp2_with (first | (go_at_call 200; refine (FRC.out _).mono ?_; rintro rv w1 ⟨rfl, rfl⟩) | (go_at_call 201; refine (placesOf_any u (by omega) (by omega) _).mono ?_; rintro rv w1 ⟨rfl, rfl⟩))
    go_ret
    exact ⟨ret_int K2.out.symm, rfl⟩
  · obtain ⟨b, hb⟩ : ∃ b : Nat, plV u - 24 = b := ⟨(plV u - 24).toNat, by omega⟩
    have k1 : (if plV u ≤ 24 then u else u / pw (plV u - 24) * pw (plV u - 24)) = u / pw b * pw b := by rw [if_neg hp, hb]
    have K1 := Lib.hid k1; clear k1
    have FRC := Lib.hid (fun w => by have := front24_any u h0 h1 w; rw [K1.out] at this; exact this)
    have hn0 : u ≠ 0 := by intro h; subst h; rw [pl_zero] at hp; omega
    obtain ⟨b1, b2, b3⟩ := pl_bd u hn0 (by omega) (by omega)
    have hnn : (u.natAbs : Int) = u := by omega
    rw [hnn] at b2 b3
    have hd := Int.mul_ediv_add_emod u (pw b)
    have hB := pw_pos (b : Int)
    have hr0 := Int.emod_nonneg u (show pw b ≠ 0 by omega)
    have hc : pw b * (u / pw b) = u / pw b * pw b := Int.mul_comm _ _
    have q0 : 0 ≤ u / pw b := Int.ediv_nonneg h0 (by omega)
    have e24 : pw (plV u) = 16777216 * pw b := by
      rw [show plV u = 24 + (b : Int) by omega, pw_add 24 b (by decide) (by omega)]; rfl
    have hq1 : u / pw b < 16777216 := Int.ediv_lt_of_lt_mul (by omega) (by omega)
    have hmax : (u / pw b + 1) * pw b ≤ 16777216 * pw b := Int.mul_le_mul_of_nonneg_right (by omega) (by omega)
    have hpb : 16777216 * pw b ≤ 4611686018427387904 := by
      rw [← e24]; exact pw_le 62 _ rfl L1
    have hor := or_last (u / pw b) b q0 (by omega)
    have k2 : IntKind.i64.wrap (plV u - 24) = (b : Int) := by rw [IntWalk.i64_in _ (by omega)]; omega
    have k4 := pw_of (b : Int)
    have hb2 : (b : Int) ≤ 40 := by omega
    have pb2 : pw b ≤ 1099511627776 := pw_le 40 _ rfl hb2
    by_cases hz : u % pw b = 0
    · have k5 : u / pw b * pw b = u := by omega
      have k6 : kpV u = u := by unfold kpV; rw [if_neg hp, hb, if_pos hz]
      have K5 := Lib.hid k5; have K6 := Lib.hid k6; clear k5 k6
      have FRD := Lib.hid (fun w => by have := FRC.out w; rw [K5.out] at this; exact this)
      clear hz hor k2 k4 hd hc e24 hp
      go_enter Tryz.func191, Tryz.ntmps191
      go_wp2_with (first | (go_at_call 200; refine (FRD.out _).mono ?_; rintro rv w1 ⟨rfl, rfl⟩) | (go_at_call 201; refine (placesOf_any u (by omega) (by omega) _).mono ?_; rintro rv w1 ⟨rfl, rfl⟩))
      go_ret
      exact ⟨ret_int K6.out.symm, rfl⟩
    · have k5 : ¬ u / pw b * pw b = u := by omega
      have k5b : (u / pw b * pw b == u) = false := by simpa using k5
      have k6 : kpV u = (if u / pw b % 2 = 1 then u / pw b else u / pw b + 1) * pw b := by
        unfold kpV
        rw [if_neg hp, hb, if_neg hz]
        split <;> rfl
      have K6 := Lib.hid (k6.trans hor.symm); clear k6 hor
      have PLC := Lib.hid (fun w => placesOf_any u (by omega) (by omega) w)
      have k7 : IntKind.i64.wrap (pw b) = pw b := IntWalk.i64_in _ (by omega)
      have j1 : 0 ≤ plV u - 24 := by omega
      have j2 : plV u - 24 ≤ 40 := by omega
      have k8 : pw (plV u - 24) = pw b := by rw [hb]
      have k10 : (2 : Int) ^ b = pw (b : Int) := by have := pw_of (b : Int); rwa [Int.toNat_natCast] at this
      have k9 := pw_of (plV u - 24)
      rw [k8] at k9
      clear k8 hz hd hc e24 hp hb
      go_enter Tryz.func191, Tryz.ntmps191
      go_wp2_with (first | (go_at_call 200; refine (FRC.out _).mono ?_; rintro rv w1 ⟨rfl, rfl⟩) | (go_at_call 201; refine (PLC.out _).mono ?_; rintro rv w1 ⟨rfl, rfl⟩))
      go_ret
      exact ⟨ret_int K6.out.symm, rfl⟩

/-- What a float holds of a number: its first places, in units of 2^-149 of a unit, not more than the limit. -/
def flV (N k : Int) : Nat := (min (kpV N * pw (k + 149)) (pw 190)).toNat

theorem fl_ok {N k : Int} (h0 : 0 ≤ N) (h1 : N < 4611686018427387904) (hk : -149 ≤ k) : Ok Ieee.single (flV N k) ∧ flV N k ≤ (pw 190).toNat := by
  obtain ⟨c, b, e, hc, hb, _⟩ := kp_parts h0 h1
  have h190 : (pw 190).toNat = 1 * 2 ^ 190 := by decide
  have hle : flV N k ≤ (pw 190).toNat := by unfold flV; omega
  refine ⟨?_, hle⟩
  by_cases hm : kpV N * pw (k + 149) ≤ pw 190
  · have e2 : flV N k = c * 2 ^ (b + (k + 149).toNat) := by
      unfold flV
      rw [Int.min_eq_left hm, e, Int.mul_assoc, ← pw_add b (k + 149) (by omega) (by omega)]
      have : pw ((b : Int) + (k + 149)) = ((2 ^ (b + (k + 149).toNat) : Nat) : Int) := by
        rw [pw_cast]; congr 1; omega
      rw [this]
      omega
    by_cases hc0 : c = 0
    · subst hc0
      rw [e2, Nat.zero_mul]
      have := ok32 (c := 0) (j := 0) (by decide) (by decide)
      rwa [Nat.zero_mul] at this
    · rw [e2]
      refine ok32 hc ?_
      have h2 : 2 ^ (b + (k + 149).toNat) ≤ 2 ^ 190 := by
        have a1 : 1 * 2 ^ (b + (k + 149).toNat) ≤ c * 2 ^ (b + (k + 149).toNat) := Nat.mul_le_mul_right _ (by omega)
        rw [← e2] at a1
        omega
      have := (Nat.pow_le_pow_iff_right (by decide : 1 < 2)).1 h2
      omega
  · have e2 : flV N k = 1 * 2 ^ 190 := by
      unfold flV
      rw [Int.min_eq_right (by omega), h190]
    rw [e2]
    exact ok32 (by decide) (by decide)

theorem fl_scale {N k : Int} {c b j z D : Nat} (hz : z = 41) (hD : D = 925) (e : kpV N = (c : Int) * pw b) (hk : -149 ≤ k) (hj : (j : Int) = 1074 + (b : Int) + k) :
    min (c * 2 ^ j) (2 ^ (1074 + z)) = flV N k * 2 ^ D := by
  have h190 : pw 190 = ((2 ^ 190 : Nat) : Int) := by decide
  have e1 : kpV N * pw (k + 149) = ((c * 2 ^ (b + (k + 149).toNat) : Nat) : Int) := by
    rw [e, Int.mul_assoc, ← pw_add b (k + 149) (by omega) (by omega), Int.natCast_mul, pw_cast]
    congr 2
    omega
  have e2 : flV N k = min (c * 2 ^ (b + (k + 149).toNat)) (2 ^ 190) := by
    unfold flV
    rw [e1, h190]
    omega
  have e3 : c * 2 ^ j = c * 2 ^ (b + (k + 149).toNat) * 2 ^ D := by
    rw [Nat.mul_assoc, ← Nat.pow_add]
    congr 2
    omega
  have e4 : 2 ^ (1074 + z) = 2 ^ 190 * 2 ^ D := by
    rw [← Nat.pow_add]
    congr 1
    omega
  rw [e2, e3, e4]
  rcases Nat.le_total (c * 2 ^ (b + (k + 149).toNat)) (2 ^ 190) with g | g
  · rw [Nat.min_eq_left g, Nat.min_eq_left (Nat.mul_le_mul_right _ g)]
  · rw [Nat.min_eq_right g, Nat.min_eq_right (Nat.mul_le_mul_right _ g)]

theorem int_conv {N : Int} {c b : Nat} (e : kpV N = (c : Int) * pw b) : floatOfInt .f64 (kpV N) = fw Ieee.double (c * 2 ^ (1074 + b)) := by
  obtain ⟨B, hB⟩ : ∃ B : Nat, B = 1074 := ⟨_, rfl⟩
  have e1 : kpV N = ((c * 2 ^ b : Nat) : Int) := by rw [e, Int.natCast_mul, pw_cast]
  have := int_fw (f := Ieee.double) (c * 2 ^ b) B (by rw [hB]; decide)
  rw [e1]
  have e2 : c * 2 ^ b * 2 ^ B = c * 2 ^ (1074 + b) := by
    rw [Nat.mul_assoc, ← Nat.pow_add]
    congr 2
    omega
  rw [e2] at this
  exact this

set_option maxHeartbeats 1600000 in
theorem floatUnits_any (e f n d : Int) (hg : goodB e f = true) (N0 : 0 ≤ n) (N1 : n < 4611686018427387904) (hk : -149 ≤ d - unV e f) (hk2 : d - unV e f ≤ 149) (w : World) :
    Calls Tryz.prog 179 #[fmt e f, .int .i64 n, .int .i64 d] w fun rv w' => rv = .returned (.float .f32 (fw Ieee.single (flV n (d - unV e f)))) ∧ Ext w w' := by
  obtain ⟨u1, u2, u3, u4⟩ := un_bd hg
  obtain ⟨c, b, ek, hc, hb, hpos⟩ := kp_parts N0 N1
  obtain ⟨ok, _⟩ := fl_ok N0 N1 hk
  obtain ⟨j, hj⟩ : ∃ j : Nat, (j : Int) = 1074 + (b : Int) + (d - unV e f) := ⟨(1074 + (b : Int) + (d - unV e f)).toNat, by omega⟩
  obtain ⟨z, hz⟩ : ∃ z : Nat, z = 41 := ⟨_, rfl⟩
  obtain ⟨D, hD⟩ : ∃ D : Nat, D = 925 := ⟨_, rfl⟩
  have hs := fl_scale hz hD ek hk hj
  have okA : Ok Ieee.double (c * 2 ^ j) := ok64 (by omega) (by omega)
  have okB : Ok Ieee.double (2 ^ (1074 + z)) := by
    have := ok64 (c := 1) (j := 1074 + z) (by decide) (by omega)
    rwa [Nat.one_mul] at this
  have okM : Ok Ieee.double (flV n (d - unV e f) * 2 ^ D) := by
    rw [← hs]
    rcases Nat.le_total (c * 2 ^ j) (2 ^ (1074 + z)) with g | g
    · rw [Nat.min_eq_left g]; exact okA
    · rw [Nat.min_eq_right g]; exact okB
  have hlim : fw Ieee.double (2 ^ (1074 + z)) = 4791830003522207744 := by
    rw [pow64 z (by omega)]; omega
  have hL : ∀ w, Calls Tryz.prog 192 #[.float .f64 (fw Ieee.double (c * 2 ^ (1074 + b))), .int .i64 (d - unV e f)] w fun rv w' => rv = .returned (.float .f64 (fw Ieee.double (c * 2 ^ j))) ∧ w = w' := by
    intro w
    by_cases hc0 : c = 0
    · subst hc0
      rw [Nat.zero_mul, Nat.zero_mul]
      have z0 : fw Ieee.double 0 = 0 := near_zero _ _
      rw [z0]
      exact ldexpW_any 0 0 _ w (ldexp_zero _ w)
    · have := ldexp_c c b (d - unV e f) (by omega) hc hb (by omega) (by omega) w
      rw [show (1074 + (b : Int) + (d - unV e f)).toNat = j by omega] at this
      exact ldexpW_any _ _ _ w this
  have HL := Lib.hid hL; clear hL
  have mn : ∀ (ts : Array TypeId) (t : TypeId) (w : World), (Builtin.min_ ts t #[.float .f64 (fw Ieee.double (c * 2 ^ j)), .float .f64 4791830003522207744]).run Tryz.prog w = .ok (.float .f64 (fw Ieee.double (flV n (d - unV e f) * 2 ^ D))) w := by
    intro ts t w
    have := min_fw (P := Tryz.prog) (k := .f64) okA okB ts t w
    rw [← hlim, ← hs]
    exact this
  have cv : ∀ w, (convert 200 189 (.float .f64 (fw Ieee.double (flV n (d - unV e f) * 2 ^ D)))).run Tryz.prog w = .ok (.float .f32 (fw Ieee.single (flV n (d - unV e f)))) w := fun w =>
    run_convert_float_float w _ _ .f64 .f32 _ _ (by kernel_rfl) Tryz.underlying189 (conv_fw okM ok (by rw [hD]))
  have ic := int_conv (N := n) ek
  have k0 : IntKind.i64.wrap (d - unV e f) = d - unV e f := IntWalk.i64_in _ (by omega)
  generalize fw Ieee.double (flV n (d - unV e f) * 2 ^ D) = w3 at *
  generalize fw Ieee.double (c * 2 ^ j) = w2 at *
  generalize fw Ieee.double (c * 2 ^ (1074 + b)) = w1 at *
  generalize fw Ieee.single (flV n (d - unV e f)) = w4 at *
  clear okA okB okM ok hs hlim ek hpos hj hz hD
  go_enter Tryz.func179, Tryz.ntmps179
  go_wp2_with (first | (go_at_call 191; refine (oddPlaces_any n N0 N1 _).mono ?_; rintro rv w1 ⟨rfl, rfl⟩) | (go_at_call 159; refine (unitPower_any e f hg _).mono ?_; rintro rv w1 ⟨rfl, hb⟩; have ns : w.heap.size < w1.heap.size := hb.ltK; have n0 : w1.cell? ⟨w.heap.size, 0, none⟩ = some (.int .i64 e) := hb.cellK; have n1 : w1.cell? ⟨w.heap.size, 1, none⟩ = some (.int .i64 f) := hb.cellK; (first | (have nx := hx.trK hb; clear hx) | have nx := hb); clear hb; try clear hs; try clear g0; try clear g1; have hx := nx; clear nx; have hs := ns; clear ns; have g0 := n0; clear n0; have g1 := n1; clear n1) | (go_at_call 192; refine (HL.out _).mono ?_; rintro rv w1 ⟨rfl, rfl⟩))
  go_ret
  exact ⟨rfl, Ext.auK⟩
end Go.Proofs.YtmddlbphanlfhaaGreatDoor

namespace Go.Proofs.YtmddlbphanlfhaaGreatDoor
open Go Go.RowKit
set_option linter.unusedSimpArgs false
set_option linter.unusedVariables false

theorem isNaN32_any (b : Nat) (h : b < 2139095040) (w : World) : Calls Tryz.prog 204 #[.float .f32 b] w fun rv w' => rv = .returned (.bool false) ∧ w = w' := by
  have o : FloatKind.f32.format.order b b = some .eq := by
    rw [order_pos (by rw [inf32]; omega) (by rw [inf32]; omega), cmp_eq rfl]
  go_enter Tryz.func204, Tryz.ntmps204
  go_wp2
  go_ret
  exact ⟨rfl, rfl⟩

theorem compare32_any (a b : Nat) (ha : a < 2139095040) (hb : b < 2139095040) (w : World) : Calls Tryz.prog 193 #[.float .f32 a, .float .f32 b] w fun rv w' => rv = .returned (.int .i64 (sgV ((a : Int) - b))) ∧ w = w' := by
  rcases Nat.lt_trichotomy a b with h | h | h
  · have o : FloatKind.f32.format.order a b = some .lt := by
      rw [order_pos (by rw [inf32]; omega) (by rw [inf32]; omega), cmp_lt h]
    have hk : sgV ((a : Int) - b) = -1 := sg_neg (by omega)
    have Hk := Lib.hid hk; clear hk
    go_enter Tryz.func193, Tryz.ntmps193
    go_wp2_with (go_at_call 204; refine (isNaN32_any _ (by omega) _).mono ?_; rintro rv w1 ⟨rfl, rfl⟩)
    go_ret
    exact ⟨ret_int Hk.out.symm, rfl⟩
  · subst h
    have o : FloatKind.f32.format.order a a = some .eq := by
      rw [order_pos (by rw [inf32]; omega) (by rw [inf32]; omega), cmp_eq rfl]
    have hk : sgV ((a : Int) - a) = 0 := sg_zero (by omega)
    have Hk := Lib.hid hk; clear hk
    go_enter Tryz.func193, Tryz.ntmps193
    go_wp2_with (go_at_call 204; refine (isNaN32_any _ (by omega) _).mono ?_; rintro rv w1 ⟨rfl, rfl⟩)
    go_ret
    exact ⟨ret_int Hk.out.symm, rfl⟩
  · have o : FloatKind.f32.format.order a b = some .gt := by
      rw [order_pos (by rw [inf32]; omega) (by rw [inf32]; omega), cmp_gt h]
    have hk : sgV ((a : Int) - b) = 1 := sg_pos (by omega)
    have Hk := Lib.hid hk; clear hk
    go_enter Tryz.func193, Tryz.ntmps193
    go_wp2_with (go_at_call 204; refine (isNaN32_any _ (by omega) _).mono ?_; rintro rv w1 ⟨rfl, rfl⟩)
    go_ret
    exact ⟨ret_int Hk.out.symm, rfl⟩

theorem compare_fw (A B : Nat) (ha : Ok Ieee.single A) (hb : Ok Ieee.single B) (w : World) : Calls Tryz.prog 193 #[.float .f32 (fw Ieee.single A), .float .f32 (fw Ieee.single B)] w fun rv w' => rv = .returned (.int .i64 (sgV ((A : Int) - B))) ∧ w = w' := by
  have h1 := fw_fin ha
  have h2 := fw_fin hb
  have hi : Ieee.single.infRung = 2139095040 := by decide
  rw [hi] at h1 h2
  have := compare32_any _ _ h1 h2 w
  have e : sgV (((fw Ieee.single A : Nat) : Int) - (fw Ieee.single B : Nat)) = sgV ((A : Int) - B) := by
    have l1 := fw_lt ha hb
    have l2 := fw_lt hb ha
    rcases Nat.lt_trichotomy A B with h | h | h
    · have := l1.2 h
      rw [sg_neg (by omega), sg_neg (by omega)]
    · subst h
      rw [sg_zero (by omega), sg_zero (by omega)]
    · have := l2.2 h
      rw [sg_pos (by omega), sg_pos (by omega)]
  rwa [e] at this

theorem bits32_run (b : Nat) (w : World) : (callFunc 199 #[.float .f32 b]).run Tryz.prog w = .ok (.value (.int .u32 b)) w :=
  (run_callFunc_extern (e := Extern.MathFloatBits.float32bits) Tryz.func199 (by kernel_rfl) (by kernel_rfl) (by kernel_rfl) (by kernel_rfl) _ w).trans rfl

theorem cut_fw {V : Nat} (ok : Ok Ieee.single V) (hV : V < 2 ^ 190) (w : World) : (convert 189 3 (.float .f32 (fw Ieee.single V))).run Tryz.prog w = .ok (.int .i64 ((V / 2 ^ 149 : Nat) : Int)) w := by
  refine run_convert_float_int w 189 3 .f32 .i64 _ _ (by kernel_rfl) Tryz.underlying3 ?_
  unfold floatToIntVal
  have h := toInt_fw (f := Ieee.single) 149 (by decide) ok
  have h2 : (FloatKind.f32.decode (fw Ieee.single V)).toInt .zero = some ((V / 2 ^ 149 : Nat) : Int) := h
  rw [h2]
  have h3 : V / 2 ^ 149 < 2 ^ 41 := Nat.div_lt_of_lt_mul (by rw [← Nat.pow_add]; exact hV)
  generalize V / 2 ^ 149 = u at *
  have a1 : IntKind.i64.min ≤ (u : Int) := by have : IntKind.i64.min ≤ 0 := by decide
                                              omega
  have a2 : (u : Int) ≤ IntKind.i64.max := by have : (2199023255552 : Int) ≤ IntKind.i64.max := by decide
                                              omega
  simp only [a1, a2, and_self, if_true]

/-- The fields of the pattern below. -/
def FFout (f : Int) (V : Nat) (w : World) (rv : Ending) (w' : World) : Prop := ∃ x r : Int, rv = .returned (.agg #[.int .i64 (0), .int .i64 (x), .int .i64 (r)]) ∧ 0 ≤ x ∧ (0 ≤ r ∧ r < pw f) ∧ mgV f (x * pw f + r) * pw 149 ≤ V ∧ (V : Int) < mgV f (x * pw f + r + 1) * pw 149 ∧ Ext w w'

theorem ff_low (e f : Int) (V : Nat) (hg : goodB e f = true) (ok : Ok Ieee.single V) (hV : V < 2 ^ 190) (hu : ((V / 2 ^ 149 : Nat) : Int) < pw f) (w : World) : Calls Tryz.prog 189 #[fmt e f, .float .f32 (fw Ieee.single V)] w fun rv w' => rv = .returned (.agg #[.int .i64 (0), .int .i64 (0), .int .i64 (((V / 2 ^ 149 : Nat) : Int))]) ∧ Ext w w' := by
  obtain ⟨h1, h2, h3, h4⟩ := good_iff.1 hg
  obtain ⟨⟨a1, a2⟩, ⟨b1, b2⟩, ⟨c1, c2⟩, hmul⟩ := pw_facts h1 h2 h3 h4
  have Hmul := Lib.hid hmul; clear hmul
  have cv := cut_fw ok hV
  generalize V / 2 ^ 149 = u at *
  generalize fw Ieee.single V = b at *
  have lt : (u : Int) ≤ pw f - 1 := by omega
  go_enter Tryz.func189, Tryz.ntmps189
  go_wp2_with (go_at_call 162; refine (fractionOnes_any e f hg _).mono ?_; rintro rv w1 ⟨rfl, hb⟩; have ns : w.heap.size + 1 < w1.heap.size := hb.ltK; have n0 : w1.cell? ⟨w.heap.size, 0, none⟩ = some (.int .i64 e) := hb.cellK; have n1 : w1.cell? ⟨w.heap.size, 1, none⟩ = some (.int .i64 f) := hb.cellK; have n2 : w1.cell? ⟨w.heap.size + 1, 0, none⟩ = some (.int .i64 0) := hb.cellK; have n3 : w1.cell? ⟨w.heap.size + 1, 1, none⟩ = some (.int .i64 0) := hb.cellK; have n4 : w1.cell? ⟨w.heap.size + 1, 2, none⟩ = some (.int .i64 0) := hb.cellK; have nz0 : w1.frozen? ⟨w.heap.size + 1, 0, none⟩ = false := hb.frzK; have nz1 : w1.frozen? ⟨w.heap.size + 1, 1, none⟩ = false := hb.frzK; have nz2 : w1.frozen? ⟨w.heap.size + 1, 2, none⟩ = false := hb.frzK; (first | (have nx := hx.trK hb; clear hx) | have nx := hb); clear hb; try clear hs; try clear g0; try clear g1; try clear g2; try clear g3; try clear g4; try clear z0; try clear z1; try clear z2; have hx := nx; clear nx; have hs := ns; clear ns; have g0 := n0; clear n0; have g1 := n1; clear n1; have g2 := n2; clear n2; have g3 := n3; clear n3; have g4 := n4; clear n4; have z0 := nz0; clear nz0; have z1 := nz1; clear nz1; have z2 := nz2; clear nz2)
  refine bodyPost_ret (v := .agg #[.int .i64 (0), .int .i64 (0), .int .i64 (u)]) (by simp [results, Tryz.results189, go_sem, *]) rfl ⟨rfl, Ext.auK⟩

set_option maxHeartbeats 1600000 in
theorem ff_high (e f : Int) (V E M : Nat) (hg : goodB e f = true) (ok : Ok Ieee.single V) (hV : V < 2 ^ 190) (hu : pw f ≤ ((V / 2 ^ 149 : Nat) : Int)) (hb : fw Ieee.single V = E * 8388608 + M) (hM : M < 8388608) (hE : E ≤ 254) (hx : 1 ≤ (E : Int) - 126 - f) (w : World) :
    Calls Tryz.prog 189 #[fmt e f, .float .f32 (fw Ieee.single V)] w fun rv w' => rv = .returned (.agg #[.int .i64 (0), .int .i64 ((E : Int) - 126 - f), .int .i64 ((M : Int) / pw (23 - f))]) ∧ Ext w w' := by
  obtain ⟨h1, h2, h3, h4⟩ := good_iff.1 hg
  obtain ⟨⟨a1, a2⟩, ⟨b1, b2⟩, ⟨c1, c2⟩, hmul⟩ := pw_facts h1 h2 h3 h4
  have Hmul := Lib.hid hmul; clear hmul
  have cv := cut_fw ok hV
  have pf := parts_frac (f := f) (E := E) h3 h4 hM
  have p0 := pw_pos (23 - f)
  have p1 := pw_le (a := 23 - f) 22 4194304 rfl (by omega)
  generalize V / 2 ^ 149 = u at *
  rw [hb] at cv ⊢
  have b1 : ((E * 8388608 + M : Nat) : Int) / 8388608 = (E : Int) := by omega
  have b2 : ((E * 8388608 + M : Nat) : Int) ≤ 2139095039 := by omega
  have hy0 : 0 ≤ ((E * 8388608 + M : Nat) : Int) / pw (23 - f) := Int.ediv_nonneg (by omega) (by omega)
  have hy1 : ((E * 8388608 + M : Nat) : Int) / pw (23 - f) ≤ ((E * 8388608 + M : Nat) : Int) := Int.ediv_le_self _ (by omega)
  have an := and_pw (((E * 8388608 + M : Nat) : Int) / pw (23 - f)) f hy0 (by omega) (by omega)
  rw [pf] at an
  clear pf hb
  generalize hbb : E * 8388608 + M = b at *
  have lt : ¬ (u : Int) ≤ pw f - 1 := by omega
  have k1 := pw_of (23 - f)
  have v1 : IntKind.i64.wrap ((E : Int) - 127 - f + 1) = (E : Int) - 126 - f := by rw [IntWalk.i64_in _ (by omega)]; omega
  have v2 : IntKind.i64.wrap ((E : Int) - 127 - f) = (E : Int) - 127 - f := IntWalk.i64_in _ (by omega)
  have v3 : IntKind.i64.wrap ((E : Int) - 127) = (E : Int) - 127 := IntWalk.i64_in _ (by omega)
  have v4 : IntKind.i64.wrap (23 - f) = 23 - f := IntWalk.i64_in _ (by omega)
  have v5 : 0 ≤ 23 - f := by omega
  have v6 : f ≤ 23 := by omega
  have v7 : IntKind.i64.wrap (b : Int) = (b : Int) := IntWalk.i64_in _ (by omega)
  have b0 : 0 ≤ (b : Int) := by omega
  have HBB := Lib.hid hbb; clear hbb
  go_enter Tryz.func189, Tryz.ntmps189
  go_wp2_with (first | (go_at_call 162; refine (fractionOnes_any e f hg _).mono ?_; rintro rv w1 ⟨rfl, hb⟩; have ns : w.heap.size + 1 < w1.heap.size := hb.ltK; have n0 : w1.cell? ⟨w.heap.size, 0, none⟩ = some (.int .i64 e) := hb.cellK; have n1 : w1.cell? ⟨w.heap.size, 1, none⟩ = some (.int .i64 f) := hb.cellK; have n2 : w1.cell? ⟨w.heap.size + 1, 0, none⟩ = some (.int .i64 0) := hb.cellK; have n3 : w1.cell? ⟨w.heap.size + 1, 1, none⟩ = some (.int .i64 0) := hb.cellK; have n4 : w1.cell? ⟨w.heap.size + 1, 2, none⟩ = some (.int .i64 0) := hb.cellK; have nz0 : w1.frozen? ⟨w.heap.size + 1, 0, none⟩ = false := hb.frzK; have nz1 : w1.frozen? ⟨w.heap.size + 1, 1, none⟩ = false := hb.frzK; have nz2 : w1.frozen? ⟨w.heap.size + 1, 2, none⟩ = false := hb.frzK; (first | (have nx := hx.trK hb; clear hx) | have nx := hb); clear hb; try clear hs; try clear g0; try clear g1; try clear g2; try clear g3; try clear g4; try clear z0; try clear z1; try clear z2; have hx := nx; clear nx; have hs := ns; clear ns; have g0 := n0; clear n0; have g1 := n1; clear n1; have g2 := n2; clear n2; have g3 := n3; clear n3; have g4 := n4; clear n4; have z0 := nz0; clear nz0; have z1 := nz1; clear nz1; have z2 := nz2; clear nz2) | (simp only [bits32_run]))
  go_region_held3 (fun w' => w'.cell? ⟨w.heap.size, 0, none⟩ = some (.int .i64 e) ∧ w'.cell? ⟨w.heap.size, 1, none⟩ = some (.int .i64 f) ∧ w.heap.size + 1 < w'.heap.size) ((refine ⟨?_, ?_, ?_⟩ <;> first | with_reducible assumption | ((rw [cell_setRow_far _ _ _ _ _ (by omega)]); with_reducible assumption) | ((rw [setRow_size]); with_reducible assumption) | ((repeat rw [World.cell?_setCell_far _ _ _ _ (by simp)]); with_reducible assumption) | (simp; done) | (simp [World.setCell]; first | done | omega) | (simp [go_sem, World.cell?_alloc_past, World.cell?_setCell_far, *]; done))) ((first | (go_at_call 162; refine (fractionOnes_any e f hg _).mono ?_; rintro rv w1 ⟨rfl, hb⟩; have ns : w.heap.size + 1 < w1.heap.size := hb.ltK; have n0 : w1.cell? ⟨w.heap.size, 0, none⟩ = some (.int .i64 e) := hb.cellK; have n1 : w1.cell? ⟨w.heap.size, 1, none⟩ = some (.int .i64 f) := hb.cellK; have n2 : w1.cell? ⟨w.heap.size + 1, 0, none⟩ = some (.int .i64 0) := hb.cellK; have n3 : w1.cell? ⟨w.heap.size + 1, 1, none⟩ = some (.int .i64 0) := hb.cellK; have n4 : w1.cell? ⟨w.heap.size + 1, 2, none⟩ = some (.int .i64 0) := hb.cellK; have nz0 : w1.frozen? ⟨w.heap.size + 1, 0, none⟩ = false := hb.frzK; have nz1 : w1.frozen? ⟨w.heap.size + 1, 1, none⟩ = false := hb.frzK; have nz2 : w1.frozen? ⟨w.heap.size + 1, 2, none⟩ = false := hb.frzK; (first | (have nx := hx.trK hb; clear hx) | have nx := hb); clear hb; try clear hs; try clear g0; try clear g1; try clear g2; try clear g3; try clear g4; try clear z0; try clear z1; try clear z2; have hx := nx; clear nx; have hs := ns; clear ns; have g0 := n0; clear n0; have g1 := n1; clear n1; have g2 := n2; clear n2; have g3 := n3; clear n3; have g4 := n4; clear n4; have z0 := nz0; clear nz0; have z1 := nz1; clear nz1; have z2 := nz2; clear nz2)))
  go_wp2
  refine bodyPost_ret (v := .agg #[.int .i64 (0), .int .i64 ((E : Int) - 126 - f), .int .i64 ((M : Int) / pw (23 - f))]) (by simp [results, Tryz.results189, go_sem, *]) rfl ⟨rfl, Ext.auK⟩

theorem ff_any (e f : Int) (V : Nat) (hg : goodB e f = true) (ok : Ok Ieee.single V) (hV : V < 2 ^ 190) (w : World) : Calls Tryz.prog 189 #[fmt e f, .float .f32 (fw Ieee.single V)] w (FFout f V w) := by
  obtain ⟨h1, h2, h3, h4⟩ := good_iff.1 hg
  have p149 : pw 149 = ((2 ^ 149 : Nat) : Int) := (pw_cast 149).symm
  have hA := pw_pos f
  by_cases hu : ((V / 2 ^ 149 : Nat) : Int) < pw f
  · refine (ff_low e f V hg ok hV hu w).mono ?_
    rintro rv w' ⟨rfl, hb⟩
    have hd := Nat.div_add_mod V (2 ^ 149)
    have hm := Nat.mod_lt V (Nat.two_pow_pos 149)
    have q1 : mgV f (0 * pw f + ((V / 2 ^ 149 : Nat) : Int)) = ((V / 2 ^ 149 : Nat) : Int) := by
      rw [Int.zero_mul, Int.zero_add]; exact mg_small f _ (by omega) hu
    have q2 : mgV f (0 * pw f + ((V / 2 ^ 149 : Nat) : Int) + 1) = ((V / 2 ^ 149 : Nat) : Int) + 1 := by
      have st := mg_step f (0 * pw f + ((V / 2 ^ 149 : Nat) : Int)) h3 (by rw [Int.zero_mul]; omega)
      rw [st, q1, Int.zero_mul, Int.zero_add, Int.ediv_eq_zero_of_lt (by omega) hu]
      rfl
    refine ⟨0, _, rfl, by decide, ⟨by omega, hu⟩, ?_, ?_, hb⟩
    · rw [q1, p149]
      have : ((V / 2 ^ 149 : Nat) : Int) * ((2 ^ 149 : Nat) : Int) = ((2 ^ 149 * (V / 2 ^ 149) : Nat) : Int) := by rw [Nat.mul_comm, Int.natCast_mul]
      rw [this]
      omega
    · rw [q2, p149, Int.add_mul, Int.one_mul]
      have : ((V / 2 ^ 149 : Nat) : Int) * ((2 ^ 149 : Nat) : Int) = ((2 ^ 149 * (V / 2 ^ 149) : Nat) : Int) := by rw [Nat.mul_comm, Int.natCast_mul]
      rw [this]
      omega
  · have hbig : pw f * pw 149 ≤ (V : Int) := by
      have hd := Nat.div_add_mod V (2 ^ 149)
      have a := Int.mul_le_mul_of_nonneg_right (show pw f ≤ ((V / 2 ^ 149 : Nat) : Int) by omega) (show 0 ≤ ((2 ^ 149 : Nat) : Int) by omega)
      have : ((V / 2 ^ 149 : Nat) : Int) * ((2 ^ 149 : Nat) : Int) = ((2 ^ 149 * (V / 2 ^ 149) : Nat) : Int) := by rw [Nat.mul_comm, Int.natCast_mul]
      rw [this] at a
      rw [p149]
      omega
    have h2V : 8388608 ≤ V := by
      have a := Int.mul_le_mul (show 1 ≤ pw f by omega) (show (8388608 : Int) ≤ pw 149 from pw_ge 23 _ rfl (by decide)) (by decide) (by omega)
      omega
    obtain ⟨E, M, e1, e2, e3, e4, e5⟩ := single_parts ok h2V
    obtain ⟨q1, q2, q3, q4⟩ := parts_below h3 h4 e2 e3 e4 hbig
    refine (ff_high e f V E M hg ok hV (by omega) e1 e2 e5 q1 w).mono ?_
    rintro rv w' ⟨rfl, hb⟩
    exact ⟨_, _, rfl, by omega, q2, q3, q4, hb⟩
end Go.Proofs.YtmddlbphanlfhaaGreatDoor

namespace Go.Proofs.YtmddlbphanlfhaaGreatDoor
open Go Go.RowKit
set_option linter.unusedSimpArgs false
set_option linter.unusedVariables false

theorem floatOf_mg (e f s x r : Int) (hg : goodB e f = true) (hx0 : 0 ≤ x) (hx1 : x < 31) (hr0 : 0 ≤ r) (hr1 : r < pw f) (w : World) : Calls Tryz.prog 188 #[fmt e f, .agg #[.int .i64 s, .int .i64 x, .int .i64 r]] w fun rv w' => rv = .returned (.float .f32 (fw Ieee.single (mgN f (x * pw f + r)))) ∧ Ext w w' := by
  obtain ⟨h1, h2, h3, h4⟩ := good_iff.1 hg
  have c2 : pw f ≤ 1024 := pw_le 10 1024 rfl h4
  by_cases hx : x = 0
  · subst hx
    rw [Int.zero_mul, Int.zero_add, ← (mgN_low f r hr0 hr1 (by omega)).2]
    exact floatOf_sub e f s r hg hr0 (by omega) w
  · rw [← (mgN_high f x r h3 h4 (by omega) hx1 hr0 hr1).2]
    exact floatOf_norm e f s x r hg (by omega) hx1 hr0 hr1 w
end Go.Proofs.YtmddlbphanlfhaaGreatDoor

