/-
  Contracts of the functions that the laws reach, and the plain facts that they rest on, each under the conditions that its line names; part 24.
-/
import Derived.Test.YtmddlbphanlfhaaGreatDoorKps1
import Derived.Test.YtmddlbphanlfhaaGreatDoorKps2
import Derived.Test.YtmddlbphanlfhaaGreatDoorKps3
import Derived.Test.YtmddlbphanlfhaaGreatDoorKps4
import Derived.Test.YtmddlbphanlfhaaGreatDoorKps5
import Derived.Test.YtmddlbphanlfhaaGreatDoorKps11
import Derived.Test.YtmddlbphanlfhaaGreatDoorKps12
import Derived.Test.YtmddlbphanlfhaaGreatDoorKps13
import Derived.Test.YtmddlbphanlfhaaGreatDoorKps14
import Derived.Test.YtmddlbphanlfhaaGreatDoorKps15
import Derived.Test.YtmddlbphanlfhaaGreatDoorKps16
import Derived.Test.YtmddlbphanlfhaaGreatDoorKps17
import Derived.Test.YtmddlbphanlfhaaGreatDoorKps20
import Derived.Test.YtmddlbphanlfhaaGreatDoorKps21
import Derived.Test.YtmddlbphanlfhaaGreatDoorKps22
import Derived.Test.YtmddlbphanlfhaaGreatDoorKps23
import Derived.Test.YtmddlbphanlfhaaGreatDoorRows
import Derived.WalkKit
import Derived.LoopTactic
import Derived.Laws.Bits64b
import Derived.WalkSpells
import Derived.WalkLawsBesides
import Derived.StillTactics
import Derived.Laws.Pointers
import Derived.Deep.RegionHeld3
import Derived.Deep.QuietTactic
import Derived.BigQuiet
import Derived.Outline
import Derived.Lib.Hide
import Derived.RowKit3
import Derived.Carry
import Derived.IntWalk
namespace Go.Proofs.YtmddlbphanlfhaaGreatDoor
open Go Go.RowKit
set_option linter.unusedSimpArgs false
set_option linter.unusedVariables false

theorem gr_x {e f : Int} (hg : goodB e f = true) : grV e f < (pw e - 1) * pw f ∧ (pw e - 1) * pw f ≤ 31 * pw f := by
  obtain ⟨h1, h2, h3, h4⟩ := good_iff.1 hg
  obtain ⟨⟨a1, a2⟩, ⟨b1, b2⟩, ⟨c1, c2⟩, hmul⟩ := pw_facts h1 h2 h3 h4
  exact ⟨by unfold grV; omega, Int.mul_le_mul_of_nonneg_right (by omega) (by omega)⟩

/-- The fields of a pattern that is at most the greatest one. -/
theorem p_parts {e f p : Int} (hg : goodB e f = true) (h0 : 0 ≤ p) (h1 : p ≤ grV e f) : 0 ≤ p / pw f ∧ p / pw f < 31 ∧ p / pw f < pw e - 1 ∧ 0 ≤ p % pw f ∧ p % pw f < pw f ∧ p / pw f * pw f + p % pw f = p := by
  obtain ⟨g1, g2⟩ := gr_x hg
  have hA := pw_pos f
  refine ⟨Int.ediv_nonneg h0 (by omega), Int.ediv_lt_of_lt_mul (by omega) (by omega), Int.ediv_lt_of_lt_mul (by omega) (by omega), Int.emod_nonneg _ (by omega), Int.emod_lt_of_pos _ (by omega), ?_⟩
  rw [Int.mul_comm]
  exact Int.mul_ediv_add_emod _ _

theorem mgN_ok {e f p : Int} (hg : goodB e f = true) (h0 : 0 ≤ p) (h1 : p ≤ grV e f) : Ok Ieee.single (mgN f p) ∧ mgN f p < 2 ^ 190 := by
  obtain ⟨x0, x1, x2, r0, r1, e1⟩ := p_parts hg h0 h1
  obtain ⟨_, _, h3, h4⟩ := good_iff.1 hg
  have c2 : pw f ≤ 1024 := pw_le 10 1024 rfl h4
  obtain ⟨m0, m1⟩ := mg_bd hg h0 h1
  constructor
  · by_cases hx : p / pw f = 0
    · rw [hx, Int.zero_mul, Int.zero_add] at e1
      have := (mgN_low f (p % pw f) r0 r1 (by omega)).1
      rwa [e1] at this
    · have := (mgN_high f (p / pw f) (p % pw f) h3 h4 (by omega) x1 r0 r1).1
      rwa [e1] at this
  · unfold mgN
    have : (mgV f p).toNat < 2 ^ 41 := by omega
    have := Nat.mul_lt_mul_of_pos_right this (Nat.two_pow_pos 149)
    rwa [← Nat.pow_add] at this

theorem greatest_gr (e f : Int) (hg : goodB e f = true) (w : World) : Calls Tryz.prog 187 #[fmt e f] w fun rv w' => rv = .returned (.tuple #[.int .i64 (grV e f), .bool true]) ∧ Ext w w' := iGreatestOf_yes e f hg w

theorem fieldsOf_gr (e f p : Int) (hg : goodB e f = true) (h0 : 0 ≤ p) (h1 : p ≤ grV e f) (w : World) : Calls Tryz.prog 139 #[fmt e f, .int .i64 p] w fun rv w' => rv = .returned (.agg #[.int .i64 0, .int .i64 (p / pw f), .int .i64 (p % pw f)]) ∧ Ext w w' := by
  obtain ⟨g0, g1, g2⟩ := gr_bd2 hg
  have e1 : p / pw (e + f) = 0 := Int.ediv_eq_zero_of_lt h0 (by omega)
  have e2 : p % pw (e + f) = p := Int.emod_eq_of_lt h0 (by omega)
  have := fieldsOf_any e f p hg h0 (by omega) w
  rwa [e1, e2] at this

theorem floatOf_p (e f p : Int) (hg : goodB e f = true) (h0 : 0 ≤ p) (h1 : p ≤ grV e f) (w : World) : Calls Tryz.prog 188 #[fmt e f, .agg #[.int .i64 0, .int .i64 (p / pw f), .int .i64 (p % pw f)]] w fun rv w' => rv = .returned (.float .f32 (fw Ieee.single (mgN f p))) ∧ Ext w w' := by
  obtain ⟨x0, x1, x2, r0, r1, e1⟩ := p_parts hg h0 h1
  have := floatOf_mg e f 0 (p / pw f) (p % pw f) hg x0 x1 r0 r1 w
  rwa [e1] at this

theorem patternOf_p (e f p : Int) (hg : goodB e f = true) (h0 : 0 ≤ p) (h1 : p ≤ grV e f) (w : World) : Calls Tryz.prog 82 #[fmt e f, .agg #[.int .i64 0, .int .i64 (p / pw f), .int .i64 (p % pw f)]] w fun rv w' => rv = .returned (.int .i64 p) ∧ Ext w w' := by
  obtain ⟨x0, x1, x2, r0, r1, e1⟩ := p_parts hg h0 h1
  have := patternOf_any e f 0 (p / pw f) (p % pw f) hg (by decide) (by decide) x0 (by omega) r0 r1 w
  rwa [e1, Int.zero_mul, Int.zero_add] at this

theorem step_p (e f p : Int) (hg : goodB e f = true) (h0 : 0 ≤ p) (h1 : p ≤ grV e f) (w : World) : Calls Tryz.prog 190 #[fmt e f, .int .i64 p] w fun rv w' => rv = .returned (.tuple #[.int .i64 (stV f p), .bool true]) ∧ Ext w w' := by
  obtain ⟨x0, x1, x2, r0, r1, e1⟩ := p_parts hg h0 h1
  obtain ⟨g0, g1, g2⟩ := gr_bd2 hg
  obtain ⟨h1', h2', h3', h4'⟩ := good_iff.1 hg
  obtain ⟨_, ⟨b1, b2⟩, ⟨c1, c2⟩, hmul⟩ := pw_facts h1' h2' h3' h4'
  have hp : patB e f p = true := pat_iff.2 ⟨hg, h0, by omega⟩
  have hf : finB e f p = true := by
    unfold finB
    rw [hp, Bool.true_and, Int.emod_eq_of_lt h0 (by omega), decide_eq_true_eq]
    exact x2
  have := iStepUnits_yes e f p hf w
  rwa [step_st h0 (by omega)] at this

/-- A step, in units of 2^-149. -/
def stN (f p : Int) : Nat := (stV f p).toNat * 2 ^ 149

theorem st_pw {e f p : Int} (hg : goodB e f = true) (h0 : 0 ≤ p) (h1 : p ≤ grV e f) : ∃ s : Nat, stV f p = ((2 ^ s : Nat) : Int) ∧ s ≤ 29 := by
  obtain ⟨x0, x1, x2, r0, r1, e1⟩ := p_parts hg h0 h1
  refine ⟨(max 0 (p / pw f - 1)).toNat, ?_, by omega⟩
  unfold stV
  have := pw_cast (max 0 (p / pw f - 1)).toNat
  rw [Int.toNat_of_nonneg (by omega)] at this
  first | exact this | exact this.symm

theorem stN_ok {e f p : Int} (hg : goodB e f = true) (h0 : 0 ≤ p) (h1 : p ≤ grV e f) : Ok Ieee.single (stN f p) ∧ floatOfInt .f32 (stV f p) = fw Ieee.single (stN f p) := by
  obtain ⟨s, e1, hs⟩ := st_pw hg h0 h1
  unfold stN
  rw [e1, Int.toNat_natCast]
  refine ⟨?_, int_fw (f := Ieee.single) (2 ^ s) 149 (by decide)⟩
  have := ok32 (c := 1) (j := s + 149) (by decide) (by omega)
  rwa [Nat.one_mul, Nat.pow_add] at this

/-- The pattern below, what is left above it, and the step. -/
def SpotOut (e f : Int) (Y : Nat) (w : World) (rv : Ending) (w' : World) : Prop := ∃ p : Int, rv = .returned (.agg #[.int .i64 p, .float .f32 (fw Ieee.single (Y - mgN f p)), .float .f32 (fw Ieee.single (stN f p))]) ∧ BelowQ f (grV e f) (Y : Int) (pw 149) p ∧ Ext w w'

theorem ffP (e f : Int) (Y : Nat) (hg : goodB e f = true) (ok : Ok Ieee.single Y) (w : World) : Calls Tryz.prog 189 #[fmt e f, .float .f32 (fw Ieee.single (min Y (mgN f (grV e f))))] w fun rv w' => ∃ p : Int, rv = .returned (.agg #[.int .i64 0, .int .i64 (p / pw f), .int .i64 (p % pw f)]) ∧ BelowQ f (grV e f) (Y : Int) (pw 149) p ∧ Ext w w' := by
  obtain ⟨gg0, gg1, gg2⟩ := gr_bd2 hg
  obtain ⟨okG, ltG⟩ := mgN_ok (p := grV e f) hg (by omega) (Int.le_refl _)
  obtain ⟨m0, m1⟩ := mg_bd (p := grV e f) hg (by omega) (Int.le_refl _)
  have hA := pw_pos f
  have okV : Ok Ieee.single (min Y (mgN f (grV e f))) := by
    rcases Nat.le_total Y (mgN f (grV e f)) with h | h
    · rwa [Nat.min_eq_left h]
    · rwa [Nat.min_eq_right h]
  have cG := mgN_cast f (grV e f) m0
  refine (ff_any e f _ hg okV (Nat.lt_of_le_of_lt (Nat.min_le_right _ _) ltG) w).mono ?_
  rintro rv w' ⟨x, r, rfl, x0, ⟨r0, r1⟩, q1, q2, hb⟩
  have e1 : (x * pw f + r) / pw f = x := by
    rw [Int.add_comm, Int.add_mul_ediv_right _ _ (by omega), Int.ediv_eq_zero_of_lt r0 r1, Int.zero_add]
  have e2 : (x * pw f + r) % pw f = r := by
    rw [Int.add_comm, Int.add_mul_emod_self_right]
    exact Int.emod_eq_of_lt r0 r1
  have cV : ((min Y (mgN f (grV e f)) : Nat) : Int) = min (Y : Int) (mgV f (grV e f) * pw 149) := by rw [← cG]; omega
  rw [cV] at q1 q2
  have p0 : 0 ≤ x * pw f + r := Int.add_nonneg (Int.mul_nonneg x0 (by omega)) r0
  exact ⟨x * pw f + r, by rw [e1, e2], below_cut hg p0 q1 q2, hb⟩
end Go.Proofs.YtmddlbphanlfhaaGreatDoor

namespace Go.Proofs.YtmddlbphanlfhaaGreatDoor
open Go Go.RowKit
set_option linter.unusedSimpArgs false
set_option linter.unusedVariables false

theorem run_store_flt {P : Program} (w : World) (a : Addr) (m : Mode) (k : FloatKind) (b : Nat) : (store a (.float k b) m).run P w = stored P w a (.float k b) m := run_store P w a _ m rfl

attribute [local go_sem] run_store_flt

theorem belowq_ex (f X D : Int) (hf : 1 ≤ f) (hX : 0 ≤ X) (n : Nat) : ∃ p, BelowQ f (n : Int) X D p := by
  induction n with
  | zero =>
    refine ⟨0, by decide, by decide, ?_, .inl (by decide)⟩
    rw [mg_small f 0 (by decide) (pw_pos f), Int.zero_mul]
    exact hX
  | succ n ih =>
    obtain ⟨p, p0, p1, p2, p3⟩ := ih
    by_cases h : mgV f ((n + 1 : Nat) : Int) * D ≤ X
    · exact ⟨_, by omega, Int.le_refl _, h, .inl (by omega)⟩
    · refine ⟨p, p0, by omega, p2, .inr ?_⟩
      rcases p3 with p3 | p3
      · have : p + 1 = ((n + 1 : Nat) : Int) := by omega
        rw [this]; omega
      · exact p3

theorem belowq_gr {e f : Int} (Y : Nat) (hg : goodB e f = true) : ∃ p, BelowQ f (grV e f) (Y : Int) (pw 149) p := by
  have := belowq_ex f (Y : Int) (pw 149) (good_iff.1 hg).2.2.1 (by omega) (grV e f).toNat
  rwa [Int.toNat_of_nonneg (by have := (gr_bd2 hg).1; omega)] at this

set_option maxHeartbeats 1600000 in
theorem spotOf_p (e f p : Int) (Y : Nat) (hg : goodB e f = true) (okY : Ok Ieee.single Y) (hp : BelowQ f (grV e f) (Y : Int) (pw 149) p) (w : World) :
    Calls Tryz.prog 178 #[fmt e f, .float .f32 (fw Ieee.single Y)] w fun rv w' => rv = .returned (.agg #[.int .i64 p, .float .f32 (fw Ieee.single (Y - mgN f p)), .float .f32 (fw Ieee.single (stN f p))]) ∧ Ext w w' := by
  obtain ⟨gg0, gg1, gg2⟩ := gr_bd2 hg
  obtain ⟨okG, ltG⟩ := mgN_ok (p := grV e f) hg (by omega) (Int.le_refl _)
  have p0 := hp.1
  have p1 := hp.2.1
  obtain ⟨okP, ltP⟩ := mgN_ok hg p0 p1
  have mn : ∀ (ts : Array TypeId) (t : TypeId) (w : World), (Builtin.min_ ts t #[.float .f32 (fw Ieee.single Y), .float .f32 (fw Ieee.single (mgN f (grV e f)))]).run Tryz.prog w = .ok (.float .f32 (fw Ieee.single (min Y (mgN f (grV e f))))) w :=
    fun ts t w => min_fw (P := Tryz.prog) (k := .f32) okY okG ts t w
  have hff : ∀ w, Calls Tryz.prog 189 #[fmt e f, .float .f32 (fw Ieee.single (min Y (mgN f (grV e f))))] w fun rv w' => rv = .returned (.agg #[.int .i64 0, .int .i64 (p / pw f), .int .i64 (p % pw f)]) ∧ Ext w w' := by
    intro w
    refine (ffP e f Y hg okY w).mono ?_
    rintro rv w' ⟨q, rfl, hq, hb⟩
    obtain rfl := belowq_one (good_iff.1 hg).2.2.1 (pw_pos 149) hp hq
    exact ⟨rfl, hb⟩
  have hfg := fun w => floatOf_p e f (grV e f) hg (by omega) (Int.le_refl _) w
  have hfp := fun w => floatOf_p e f p hg p0 p1 w
  have hpo := fun w => patternOf_p e f p hg p0 p1 w
  have hst := fun w => step_p e f p hg p0 p1 w
  have sw := (stN_ok hg p0 p1).2
  have sb0 : floatBits .sub .f32 (fw Ieee.single Y) (fw Ieee.single (mgN f p)) = some (fw Ieee.single (Y - mgN f p)) := by
    have := mgN_cast f p (mg_bd hg p0 p1).1
    have := hp.2.2.1
    exact sub_fw okY okP (by omega)
  have sb : ∀ (t : TypeId) (w : World), (binOp .sub t (.float .f32 (fw Ieee.single Y)) (.float .f32 (fw Ieee.single (mgN f p)))).run Tryz.prog w = .ok (.float .f32 (fw Ieee.single (Y - mgN f p))) w := fun t w => run_float_arith w .sub t .f32 _ _ _ sb0
  clear sb0
  have HFF := Lib.hid hff; clear hff
  have HFG := Lib.hid hfg; clear hfg
  have HFP := Lib.hid hfp; clear hfp
  have HPO := Lib.hid hpo; clear hpo
  have HST := Lib.hid hst; clear hst
  clear okG ltG okP ltP hp
  generalize fw Ieee.single (min Y (mgN f (grV e f))) = v at *
  generalize fw Ieee.single (mgN f (grV e f)) = m at *
  generalize fw Ieee.single (mgN f p) = m2 at *
  generalize fw Ieee.single (Y - mgN f p) = m3 at *
  generalize fw Ieee.single (stN f p) = m4 at *
  generalize fw Ieee.single Y = y at *
  generalize stV f p = st at *
  generalize hX : p / pw f = X at *
  generalize hR : p % pw f = R at *
  have HX := Lib.hid hX; clear hX
  have HR := Lib.hid hR; clear hR
  go_enter Tryz.func178, Tryz.ntmps178
  go_wp2_with (go_at_call 187; refine (greatest_gr e f hg _).mono ?_; rintro rv w1 ⟨rfl, hb⟩; have ns : w.heap.size + 1 < w1.heap.size := hb.ltK; have n0 : w1.cell? ⟨w.heap.size, 0, none⟩ = some (.int .i64 e) := hb.cellK; have n1 : w1.cell? ⟨w.heap.size, 1, none⟩ = some (.int .i64 f) := hb.cellK; have n2 : w1.cell? ⟨w.heap.size + 1, 0, none⟩ = some (.int .i64 0) := hb.cellK; have n3 : w1.cell? ⟨w.heap.size + 1, 1, none⟩ = some (.float .f32 0) := hb.cellK; have n4 : w1.cell? ⟨w.heap.size + 1, 2, none⟩ = some (.float .f32 0) := hb.cellK; have nz0 : w1.frozen? ⟨w.heap.size + 1, 0, none⟩ = false := hb.frzK; have nz1 : w1.frozen? ⟨w.heap.size + 1, 1, none⟩ = false := hb.frzK; have nz2 : w1.frozen? ⟨w.heap.size + 1, 2, none⟩ = false := hb.frzK; (first | (have nx := hx.trK hb; clear hx) | have nx := hb); clear hb; try clear hs; try clear g0; try clear g1; try clear g2; try clear g3; try clear g4; try clear z0; try clear z1; try clear z2; have hx := nx; clear nx; have hs := ns; clear ns; have g0 := n0; clear n0; have g1 := n1; clear n1; have g2 := n2; clear n2; have g3 := n3; clear n3; have g4 := n4; clear n4; have z0 := nz0; clear nz0; have z1 := nz1; clear nz1; have z2 := nz2; clear nz2)
  go_region_held3 (fun w' => w'.cell? ⟨w.heap.size, 0, none⟩ = some (.int .i64 e) ∧ w'.cell? ⟨w.heap.size, 1, none⟩ = some (.int .i64 f) ∧ w'.cell? ⟨w.heap.size + 1, 0, none⟩ = some (.int .i64 0) ∧ w'.cell? ⟨w.heap.size + 1, 1, none⟩ = some (.float .f32 0) ∧ w'.cell? ⟨w.heap.size + 1, 2, none⟩ = some (.float .f32 0) ∧ w.heap.size + 1 < w'.heap.size ∧ w'.frozen? ⟨w.heap.size + 1, 0, none⟩ = false ∧ w'.frozen? ⟨w.heap.size + 1, 1, none⟩ = false ∧ w'.frozen? ⟨w.heap.size + 1, 2, none⟩ = false) ((refine ⟨?_, ?_, ?_, ?_, ?_, ?_, ?_, ?_, ?_⟩ <;> first | with_reducible assumption | ((rw [cell_setRow_far _ _ _ _ _ (by omega)]); with_reducible assumption) | ((rw [setRow_size]); with_reducible assumption) | ((repeat rw [World.cell?_setCell_far _ _ _ _ (by simp)]); with_reducible assumption) | (simp; done) | (simp [World.setCell]; first | done | omega) | (simp [go_sem, World.cell?_alloc_past, World.cell?_setCell_far, *]; done))) ((first | (go_at_call 139; refine (fieldsOf_gr e f _ hg (by omega) (Int.le_refl _) _).mono ?_; rintro rv w1 ⟨rfl, hb⟩; have ns : w.heap.size + 1 < w1.heap.size := hb.ltK; have n0 : w1.cell? ⟨w.heap.size, 0, none⟩ = some (.int .i64 e) := hb.cellK; have n1 : w1.cell? ⟨w.heap.size, 1, none⟩ = some (.int .i64 f) := hb.cellK; have n2 : w1.cell? ⟨w.heap.size + 1, 0, none⟩ = some (.int .i64 0) := hb.cellK; have n3 : w1.cell? ⟨w.heap.size + 1, 1, none⟩ = some (.float .f32 0) := hb.cellK; have n4 : w1.cell? ⟨w.heap.size + 1, 2, none⟩ = some (.float .f32 0) := hb.cellK; have nz0 : w1.frozen? ⟨w.heap.size + 1, 0, none⟩ = false := hb.frzK; have nz1 : w1.frozen? ⟨w.heap.size + 1, 1, none⟩ = false := hb.frzK; have nz2 : w1.frozen? ⟨w.heap.size + 1, 2, none⟩ = false := hb.frzK; (first | (have nx := hx.trK hb; clear hx) | have nx := hb); clear hb; try clear hs; try clear g0; try clear g1; try clear g2; try clear g3; try clear g4; try clear z0; try clear z1; try clear z2; have hx := nx; clear nx; have hs := ns; clear ns; have g0 := n0; clear n0; have g1 := n1; clear n1; have g2 := n2; clear n2; have g3 := n3; clear n3; have g4 := n4; clear n4; have z0 := nz0; clear nz0; have z1 := nz1; clear nz1; have z2 := nz2; clear nz2) | (go_at_call 188; refine (HFG.out _).mono ?_; rintro rv w1 ⟨rfl, hb⟩; have ns : w.heap.size + 1 < w1.heap.size := hb.ltK; have n0 : w1.cell? ⟨w.heap.size, 0, none⟩ = some (.int .i64 e) := hb.cellK; have n1 : w1.cell? ⟨w.heap.size, 1, none⟩ = some (.int .i64 f) := hb.cellK; have n2 : w1.cell? ⟨w.heap.size + 1, 0, none⟩ = some (.int .i64 0) := hb.cellK; have n3 : w1.cell? ⟨w.heap.size + 1, 1, none⟩ = some (.float .f32 0) := hb.cellK; have n4 : w1.cell? ⟨w.heap.size + 1, 2, none⟩ = some (.float .f32 0) := hb.cellK; have nz0 : w1.frozen? ⟨w.heap.size + 1, 0, none⟩ = false := hb.frzK; have nz1 : w1.frozen? ⟨w.heap.size + 1, 1, none⟩ = false := hb.frzK; have nz2 : w1.frozen? ⟨w.heap.size + 1, 2, none⟩ = false := hb.frzK; (first | (have nx := hx.trK hb; clear hx) | have nx := hb); clear hb; try clear hs; try clear g0; try clear g1; try clear g2; try clear g3; try clear g4; try clear z0; try clear z1; try clear z2; have hx := nx; clear nx; have hs := ns; clear ns; have g0 := n0; clear n0; have g1 := n1; clear n1; have g2 := n2; clear n2; have g3 := n3; clear n3; have g4 := n4; clear n4; have z0 := nz0; clear nz0; have z1 := nz1; clear nz1; have z2 := nz2; clear nz2)))
  go_wp2_with (go_at_call 189; refine (HFF.out _).mono ?_; rintro rv w1 ⟨rfl, hb⟩; have hs0 : w.heap.size < w1.heap.size := hb.lt (by omega); have ns : w.heap.size + 1 < w1.heap.size := hb.ltK; have n0 : w1.cell? ⟨w.heap.size, 0, none⟩ = some (.int .i64 e) := hb.cellK; have n1 : w1.cell? ⟨w.heap.size, 1, none⟩ = some (.int .i64 f) := hb.cellK; have n2 : w1.cell? ⟨w.heap.size + 1, 0, none⟩ = some (.int .i64 0) := hb.cellK; have n3 : w1.cell? ⟨w.heap.size + 1, 1, none⟩ = some (.float .f32 0) := hb.cellK; have n4 : w1.cell? ⟨w.heap.size + 1, 2, none⟩ = some (.float .f32 0) := hb.cellK; have nz0 : w1.frozen? ⟨w.heap.size + 1, 0, none⟩ = false := hb.frzK; have nz1 : w1.frozen? ⟨w.heap.size + 1, 1, none⟩ = false := hb.frzK; have nz2 : w1.frozen? ⟨w.heap.size + 1, 2, none⟩ = false := hb.frzK; (first | (have nx := hx.trK hb; clear hx) | have nx := hb); clear hb; try clear hs; try clear g0; try clear g1; try clear g2; try clear g3; try clear g4; try clear z0; try clear z1; try clear z2; have hx := nx; clear nx; have hs := ns; clear ns; have g0 := n0; clear n0; have g1 := n1; clear n1; have g2 := n2; clear n2; have g3 := n3; clear n3; have g4 := n4; clear n4; have z0 := nz0; clear nz0; have z1 := nz1; clear nz1; have z2 := nz2; clear nz2)
  go_wp2_with fail
  go_at_call 82; refine (HPO.out _).mono ?_; rintro rv w2 ⟨rfl, hb⟩; have ns : w1.heap.size < w2.heap.size := hb.ltK; have n0 : w2.cell? ⟨w.heap.size, 0, none⟩ = some (.int .i64 e) := hb.cellK; have n1 : w2.cell? ⟨w.heap.size, 1, none⟩ = some (.int .i64 f) := hb.cellK; have n2 : w2.cell? ⟨w1.heap.size, 0, none⟩ = some (.int .i64 0) := hb.cellK; have n3 : w2.cell? ⟨w1.heap.size, 1, none⟩ = some (.int .i64 X) := hb.cellK; have n4 : w2.cell? ⟨w1.heap.size, 2, none⟩ = some (.int .i64 R) := hb.cellK; have n5 : w2.cell? ⟨w.heap.size + 1, 0, none⟩ = some (.int .i64 0) := hb.cellK; have n6 : w2.cell? ⟨w.heap.size + 1, 1, none⟩ = some (.float .f32 0) := hb.cellK; have n7 : w2.cell? ⟨w.heap.size + 1, 2, none⟩ = some (.float .f32 0) := hb.cellK; have nz0 : w2.frozen? ⟨w.heap.size + 1, 0, none⟩ = false := (hb.frz _ _ (by first | with_reducible assumption | omega | (simp; done) | (simp; omega))).trans (by first | with_reducible assumption | (rw [frozen?_alloc_cells]; with_reducible assumption) | (simp [go_sem]; done) | (simp [go_sem]; with_reducible assumption)); have nz1 : w2.frozen? ⟨w.heap.size + 1, 1, none⟩ = false := (hb.frz _ _ (by first | with_reducible assumption | omega | (simp; done) | (simp; omega))).trans (by first | with_reducible assumption | (rw [frozen?_alloc_cells]; with_reducible assumption) | (simp [go_sem]; done) | (simp [go_sem]; with_reducible assumption)); have nz2 : w2.frozen? ⟨w.heap.size + 1, 2, none⟩ = false := (hb.frz _ _ (by first | with_reducible assumption | omega | (simp; done) | (simp; omega))).trans (by first | with_reducible assumption | (rw [frozen?_alloc_cells]; with_reducible assumption) | (simp [go_sem]; done) | (simp [go_sem]; with_reducible assumption)); (first | (have nx := hx.trK hb; clear hx) | have nx := hb); clear hb; try clear hs; try clear g0; try clear g1; try clear g2; try clear g3; try clear g4; try clear g5; try clear g6; try clear g7; try clear z0; try clear z1; try clear z2; have hx := nx; clear nx; have hs := ns; clear ns; have g0 := n0; clear n0; have g1 := n1; clear n1; have g2 := n2; clear n2; have g3 := n3; clear n3; have g4 := n4; clear n4; have g5 := n5; clear n5; have g6 := n6; clear n6; have g7 := n7; clear n7; have z0 := nz0; clear nz0; have z1 := nz1; clear nz1; have z2 := nz2; clear nz2
  go_wp2_with (go_at_call 190; refine (HST.out _).mono ?_; rintro rv w3 ⟨rfl, hb⟩; have ns : w1.heap.size < w3.heap.size := hb.ltK; have n0 : w3.cell? ⟨w.heap.size, 0, none⟩ = some (.int .i64 e) := hb.cellK; have n1 : w3.cell? ⟨w.heap.size, 1, none⟩ = some (.int .i64 f) := hb.cellK; have n2 : w3.cell? ⟨w1.heap.size, 0, none⟩ = some (.int .i64 0) := hb.cellK; have n3 : w3.cell? ⟨w1.heap.size, 1, none⟩ = some (.int .i64 X) := hb.cellK; have n4 : w3.cell? ⟨w1.heap.size, 2, none⟩ = some (.int .i64 R) := hb.cellK; have n5 : w3.cell? ⟨w.heap.size + 1, 0, none⟩ = some (.int .i64 0) := hb.cellK; have n6 : w3.cell? ⟨w.heap.size + 1, 1, none⟩ = some (.float .f32 0) := hb.cellK; have n7 : w3.cell? ⟨w.heap.size + 1, 2, none⟩ = some (.float .f32 0) := hb.cellK; have nz0 : w3.frozen? ⟨w.heap.size + 1, 0, none⟩ = false := hb.frzK; have nz1 : w3.frozen? ⟨w.heap.size + 1, 1, none⟩ = false := hb.frzK; have nz2 : w3.frozen? ⟨w.heap.size + 1, 2, none⟩ = false := hb.frzK; (first | (have nx := hx.trK hb; clear hx) | have nx := hb); clear hb; try clear hs; try clear g0; try clear g1; try clear g2; try clear g3; try clear g4; try clear g5; try clear g6; try clear g7; try clear z0; try clear z1; try clear z2; have hx := nx; clear nx; have hs := ns; clear ns; have g0 := n0; clear n0; have g1 := n1; clear n1; have g2 := n2; clear n2; have g3 := n3; clear n3; have g4 := n4; clear n4; have g5 := n5; clear n5; have g6 := n6; clear n6; have g7 := n7; clear n7; have z0 := nz0; clear nz0; have z1 := nz1; clear nz1; have z2 := nz2; clear nz2)
  go_wp2_with (go_at_call 188; refine (HFP.out _).mono ?_; rintro rv w4 ⟨rfl, hb⟩; have ns : w1.heap.size < w4.heap.size := hb.ltK; have n0 : w4.cell? ⟨w.heap.size, 0, none⟩ = some (.int .i64 e) := hb.cellK; have n1 : w4.cell? ⟨w.heap.size, 1, none⟩ = some (.int .i64 f) := hb.cellK; have n2 : w4.cell? ⟨w1.heap.size, 0, none⟩ = some (.int .i64 0) := hb.cellK; have n3 : w4.cell? ⟨w1.heap.size, 1, none⟩ = some (.int .i64 X) := hb.cellK; have n4 : w4.cell? ⟨w1.heap.size, 2, none⟩ = some (.int .i64 R) := hb.cellK; have n5 : w4.cell? ⟨w.heap.size + 1, 0, none⟩ = some (.int .i64 0) := hb.cellK; have n6 : w4.cell? ⟨w.heap.size + 1, 1, none⟩ = some (.float .f32 0) := hb.cellK; have n7 : w4.cell? ⟨w.heap.size + 1, 2, none⟩ = some (.float .f32 0) := hb.cellK; have nz0 : w4.frozen? ⟨w.heap.size + 1, 0, none⟩ = false := hb.frzK; have nz1 : w4.frozen? ⟨w.heap.size + 1, 1, none⟩ = false := hb.frzK; have nz2 : w4.frozen? ⟨w.heap.size + 1, 2, none⟩ = false := hb.frzK; (first | (have nx := hx.trK hb; clear hx) | have nx := hb); clear hb; try clear hs; try clear g0; try clear g1; try clear g2; try clear g3; try clear g4; try clear g5; try clear g6; try clear g7; try clear z0; try clear z1; try clear z2; have hx := nx; clear nx; have hs := ns; clear ns; have g0 := n0; clear n0; have g1 := n1; clear n1; have g2 := n2; clear n2; have g3 := n3; clear n3; have g4 := n4; clear n4; have g5 := n5; clear n5; have g6 := n6; clear n6; have g7 := n7; clear n7; have z0 := nz0; clear nz0; have z1 := nz1; clear nz1; have z2 := nz2; clear nz2)
  refine bodyPost_ret (v := .agg #[.int .i64 p, .float .f32 m3, .float .f32 m4]) (by simp [results, Tryz.results178, go_sem, *]) rfl ⟨rfl, Ext.auK⟩

theorem spotOf_any (e f : Int) (Y : Nat) (hg : goodB e f = true) (okY : Ok Ieee.single Y) (w : World) : Calls Tryz.prog 178 #[fmt e f, .float .f32 (fw Ieee.single Y)] w (SpotOut e f Y w) := by
  obtain ⟨p, hp⟩ := belowq_gr Y hg
  refine (spotOf_p e f p Y hg okY hp w).mono ?_
  rintro rv w' ⟨rfl, hb⟩
  exact ⟨p, rfl, hp, hb⟩
end Go.Proofs.YtmddlbphanlfhaaGreatDoor

namespace Go.Proofs.YtmddlbphanlfhaaGreatDoor
open Go Go.RowKit
set_option linter.unusedSimpArgs false
set_option linter.unusedVariables false

theorem low_parts {e f p : Int} (hg : goodB e f = true) (h0 : 0 ≤ p) (h1 : p ≤ grV e f) : ∃ M s : Nat, mgN f p = M * 2 ^ (s + 149) ∧ stN f p = 2 ^ (s + 149) ∧ s ≤ 29 := by
  obtain ⟨x0, x1, x2, r0, r1, e1⟩ := p_parts hg h0 h1
  obtain ⟨_, _, h3, h4⟩ := good_iff.1 hg
  obtain ⟨s, es, hs⟩ := st_pw hg h0 h1
  have e2 : stN f p = 2 ^ (s + 149) := by
    unfold stN
    rw [es, Int.toNat_natCast, ← Nat.pow_add]
  by_cases hx : p / pw f = 0
  · refine ⟨(mgV f p).toNat * 1, s, ?_, e2, hs⟩
    have s0 : s = 0 := by
      unfold stV at es
      rw [hx] at es
      have e3 : ((2 ^ s : Nat) : Int) = 1 := by rw [← es]; rfl
      have e4 : 2 ^ s = 1 := by omega
      cases s with
      | zero => rfl
      | succ s => rw [Nat.pow_succ] at e4; omega
    subst s0
    unfold mgN
    rw [Nat.mul_one, Nat.zero_add]
  · have := (mg_of f (p / pw f) (p % pw f) h3 (by omega) r0 r1).1
    rw [e1] at this
    have es2 : pw (p / pw f - 1) = ((2 ^ s : Nat) : Int) := by
      unfold stV at es
      rwa [show max 0 (p / pw f - 1) = p / pw f - 1 by omega] at es
    rw [es2] at this
    refine ⟨(p % pw f + pw f).toNat, s, ?_, e2, hs⟩
    have e3 : mgV f p = (((p % pw f + pw f).toNat * 2 ^ s : Nat) : Int) := by
      rw [this, Int.natCast_mul, Int.toNat_of_nonneg (by omega)]
    unfold mgN
    rw [e3, Int.toNat_natCast, Nat.mul_assoc, ← Nat.pow_add]

theorem rest_ok {e f p : Int} {Y : Nat} (hg : goodB e f = true) (okY : Ok Ieee.single Y) (hY : Y < 2 ^ 191) (h0 : 0 ≤ p) (h1 : p ≤ grV e f) (hl : mgN f p ≤ Y) :
    ∃ R : Nat, Ok Ieee.single R ∧ R < 2 ^ 192 ∧ fw Ieee.single (Y - mgN f p) = fw Ieee.single R ∧ (R = Y - mgN f p ∨ (stN f p ≤ R ∧ stN f p ≤ Y - mgN f p)) := by
  obtain ⟨M, s, em, es, hs⟩ := low_parts hg h0 h1
  rw [em] at hl ⊢
  rw [es]
  by_cases hr : 2 ^ (s + 149) ≤ Y - M * 2 ^ (s + 149)
  · obtain ⟨a, b, b2⟩ := single_ge hr (Nat.lt_of_le_of_lt (Nat.sub_le _ _) hY)
    obtain ⟨c, d⟩ := word_self a
    exact ⟨_, c, b2, d.symm, .inr ⟨b, hr⟩⟩
  · refine ⟨_, ⟨?_, Nat.lt_of_le_of_lt (Nat.sub_le _ _) okY.2.1, okY.2.2⟩, Nat.lt_trans (Nat.lt_of_le_of_lt (Nat.sub_le _ _) hY) (Nat.pow_lt_pow_right (by decide) (by decide)), rfl, .inl rfl⟩
    obtain ⟨c, j, ec, hc⟩ := okY.1
    rcases Nat.le_total j (s + 149) with g | g
    · refine ⟨c - M * 2 ^ (s + 149 - j), j, ?_, Nat.lt_of_le_of_lt (Nat.sub_le _ _) hc⟩
      rw [ec, Nat.sub_mul, Nat.mul_assoc, ← Nat.pow_add, show s + 149 - j + j = s + 149 by omega]
    · have e : Y - M * 2 ^ (s + 149) = (c * 2 ^ (j - (s + 149)) - M) * 2 ^ (s + 149) := by
        rw [ec, Nat.sub_mul, Nat.mul_assoc, ← Nat.pow_add, show j - (s + 149) + (s + 149) = j by omega]
      rw [e] at hr ⊢
      have z : c * 2 ^ (j - (s + 149)) - M = 0 := by
        rcases Nat.eq_zero_or_pos (c * 2 ^ (j - (s + 149)) - M) with z | z
        · exact z
        · exact absurd (Nat.le_mul_of_pos_left _ z) hr
      rw [z]
      exact ⟨0, 0, by simp, Nat.two_pow_pos _⟩

/-- What is left, as it is or at least a step, is rounded alike. -/
theorem rnd_rest {e f p mode : Int} {Y R : Nat} {neg : Bool} (hg : goodB e f = true) (h0 : 0 ≤ p) (h1 : p ≤ grV e f) (hl : mgN f p ≤ Y) (h : R = Y - mgN f p ∨ (stN f p ≤ R ∧ stN f p ≤ Y - mgN f p)) :
    rndP (R : Int) (stN f p : Int) p mode neg = rndP ((Y : Int) - mgV f p * pw 149) (stV f p * pw 149) p mode neg := by
  have c := mgN_cast f p (mg_bd hg h0 h1).1
  have s1 := (st_bd hg h0 h1).1
  have c2 : ((stN f p : Nat) : Int) = stV f p * pw 149 := by
    unfold stN
    rw [Int.natCast_mul, Int.toNat_of_nonneg (by omega), show ((2 ^ 149 : Nat) : Int) = pw 149 from pw_cast 149]
  rw [← c, ← c2]
  have e1 : (Y : Int) - ((mgN f p : Nat) : Int) = ((Y - mgN f p : Nat) : Int) := by omega
  rw [e1]
  rcases h with h | ⟨h2, h3⟩
  · rw [h]
  · have hp := pw_pos 149
    have hs : 0 < ((stN f p : Nat) : Int) := by rw [c2]; exact Int.mul_pos (by omega) (by omega)
    generalize Y - mgN f p = A at *
    generalize stN f p = B at *
    have u : upR (R : Int) (B : Int) p mode neg = upR (A : Int) (B : Int) p mode neg := by
      unfold upR
      have q1 : decide ((B : Int) < 2 * (R : Int) ∨ (2 * (R : Int) = B ∧ p % 2 = 1)) = decide ((B : Int) < 2 * (A : Int) ∨ (2 * (A : Int) = B ∧ p % 2 = 1)) := by
        rw [decide_eq_decide]; omega
      have q2 : decide ((B : Int) ≤ 2 * (R : Int)) = decide ((B : Int) ≤ 2 * (A : Int)) := by
        rw [decide_eq_decide]; omega
      rw [q1, q2]
    unfold rndP
    rw [u, if_neg (show ¬ (R : Int) = 0 by omega), if_neg (show ¬ (A : Int) = 0 by omega)]
end Go.Proofs.YtmddlbphanlfhaaGreatDoor

