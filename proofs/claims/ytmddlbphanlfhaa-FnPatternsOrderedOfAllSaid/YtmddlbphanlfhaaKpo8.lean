/-
  Contracts of the functions that the laws reach, and the plain facts that they rest on, each under the conditions that its line names; part 8.
-/
import Derived.Test.YtmddlbphanlfhaaKpo1
import Derived.Test.YtmddlbphanlfhaaKpo2
import Derived.Test.YtmddlbphanlfhaaKpo3
import Derived.Test.YtmddlbphanlfhaaKpo4
import Derived.Test.YtmddlbphanlfhaaKpo5
import Derived.Test.YtmddlbphanlfhaaKpo7
import Derived.Test.YtmddlbphanlfhaaRows
import Derived.WalkKit
import Derived.WalkSpells
import Derived.WalkLawsBesides
import Derived.StillTactics
import Derived.Laws.Pointers
import Derived.Deep.RegionHeld3
import Derived.Deep.QuietTactic
import Derived.BigQuiet
import Derived.Outline
import Derived.Lib.Hide
import Derived.RowKit3
import Derived.Carry
import Derived.IntWalk
namespace Go.Proofs.Ytmddlbphanlfhaa
open Go Go.RowKit
set_option linter.unusedSimpArgs false
set_option linter.unusedVariables false

theorem bitsOf (b : Nat) (w : World) : (callFunc 104 #[.float .f32 b]).run Try.prog w = .ok (.value (.int .u32 b)) w :=
  (run_callFunc_extern (e := Extern.MathFloatBits.float32bits) Try.func104 (by kernel_rfl) (by kernel_rfl) (by kernel_rfl) (by kernel_rfl) _ w).trans rfl

theorem fieldsOfFloat_sub (e f m : Int) (hg : goodB e f = true) (hm0 : 0 ≤ m) (hm1 : m < pw f) (w : World) : Calls Try.prog 57 #[fmt e f, .float .f32 (floatOfInt .f32 m)] w fun rv w' => rv = .returned (.agg #[.int .i64 (0), .int .i64 (0), .int .i64 (m)]) ∧ Ext w w' := by
  obtain ⟨h1, h2, h3, h4⟩ := good_iff.1 hg
  obtain ⟨⟨a1, a2⟩, ⟨b1, b2⟩, ⟨c1, c2⟩, hmul⟩ := pw_facts h1 h2 h3 h4
  have Hmul := Lib.hid hmul; clear hmul
  have cv := cut_sub m hm0 (by omega)
  have lt : m ≤ pw f - 1 := by omega
  go_enter Try.func57, Try.ntmps57
  go_wp2_with (go_at_call 62; refine (fractionOnes_any e f hg _).mono ?_; rintro rv w1 ⟨rfl, hb⟩; have ns : w.heap.size + 1 < w1.heap.size := hb.ltK; have n0 : w1.cell? ⟨w.heap.size, 0, none⟩ = some (.int .i64 e) := hb.cellK; have n1 : w1.cell? ⟨w.heap.size, 1, none⟩ = some (.int .i64 f) := hb.cellK; have n2 : w1.cell? ⟨w.heap.size + 1, 0, none⟩ = some (.int .i64 0) := hb.cellK; have n3 : w1.cell? ⟨w.heap.size + 1, 1, none⟩ = some (.int .i64 0) := hb.cellK; have n4 : w1.cell? ⟨w.heap.size + 1, 2, none⟩ = some (.int .i64 0) := hb.cellK; have nz0 : w1.frozen? ⟨w.heap.size + 1, 0, none⟩ = false := hb.frzK; have nz1 : w1.frozen? ⟨w.heap.size + 1, 1, none⟩ = false := hb.frzK; have nz2 : w1.frozen? ⟨w.heap.size + 1, 2, none⟩ = false := hb.frzK; (first | (have nx := hx.trK hb; clear hx) | have nx := hb); clear hb; try clear hs; try clear g0; try clear g1; try clear g2; try clear g3; try clear g4; try clear z0; try clear z1; try clear z2; have hx := nx; clear nx; have hs := ns; clear ns; have g0 := n0; clear n0; have g1 := n1; clear n1; have g2 := n2; clear n2; have g3 := n3; clear n3; have g4 := n4; clear n4; have z0 := nz0; clear nz0; have z1 := nz1; clear nz1; have z2 := nz2; clear nz2)
  refine bodyPost_ret (v := .agg #[.int .i64 (0), .int .i64 (0), .int .i64 (m)]) (by simp [results, Try.results57, go_sem, *]) rfl ⟨rfl, Ext.auK⟩

theorem bits_facts (f x r B : Int) (h3 : 1 ≤ f) (h4 : f ≤ 10) (hx0 : 1 ≤ x) (hx1 : x < 31) (hr0 : 0 ≤ r) (hr1 : r < pw f) (hB : B = (x - 1 + f + 127) * 8388608 + r * pw (23 - f)) :
    (0 ≤ B ∧ B ≤ 2147483647) ∧ B / 8388608 = x - 1 + f + 127 ∧ B / pw (23 - f) = (x - 1 + f + 127) * pw f + r ∧ bits .and .i64 ((x - 1 + f + 127) * pw f + r) (pw f - 1) = r := by
  obtain ⟨⟨q1, q2⟩, _, _⟩ := fbits_eq f x r h3 h4 hx0 hx1 hr0 hr1
  have c2 : pw f ≤ 1024 := pw_le 10 1024 rfl h4
  have p23 : pw (23 - f) * pw f = 8388608 := by rw [← pw_add _ _ (by omega) (by omega), show 23 - f + f = 23 by omega]; rfl
  have p0 := pw_pos (23 - f)
  have e : B = ((x - 1 + f + 127) * pw f + r) * pw (23 - f) := by
    rw [hB, Int.add_mul _ r, Int.mul_assoc, Int.mul_comm (pw f), p23]
  have m0 : 0 ≤ (x - 1 + f + 127) * pw f := Int.mul_nonneg (by omega) (by omega)
  have m1 : (x - 1 + f + 127) * pw f ≤ 200 * 1024 := Int.mul_le_mul (by omega) c2 (by omega) (by omega)
  refine ⟨⟨by omega, by omega⟩, ?_, ?_, ?_⟩
  · rw [hB, Int.add_comm, Int.add_mul_ediv_right _ _ (by decide), Int.ediv_eq_zero_of_lt q1 q2]; omega
  · rw [e]; exact Int.mul_ediv_cancel _ (by omega)
  · rw [and_pw _ f (by omega) (by omega) (by omega), Int.add_comm, Int.add_mul_emod_self_right]
    exact Int.emod_eq_of_lt hr0 hr1

set_option maxHeartbeats 1600000 in
theorem fieldsOfFloat_bits (e f x r : Int) (b : Nat) (hg : goodB e f = true) (hx0 : 1 ≤ x) (hx1 : x < 31) (hr0 : 0 ≤ r) (hr1 : r < pw f) (cv : ∀ w : World, (convert 52 3 (.float .f32 b)).run Try.prog w = .ok (.int .i64 ((r + pw f) * pw (x - 1))) w)
    (hB : (b : Int) = (x - 1 + f + 127) * 8388608 + r * pw (23 - f)) (w : World) : Calls Try.prog 57 #[fmt e f, .float .f32 b] w fun rv w' => rv = .returned (.agg #[.int .i64 (0), .int .i64 (x), .int .i64 (r)]) ∧ Ext w w' := by
  obtain ⟨h1, h2, h3, h4⟩ := good_iff.1 hg
  obtain ⟨⟨a1, a2⟩, ⟨b1, b2⟩, ⟨c1, c2⟩, hmul⟩ := pw_facts h1 h2 h3 h4
  have Hmul := Lib.hid hmul; clear hmul
  obtain ⟨⟨B0, B1⟩, e1, e2, e3⟩ := bits_facts f x r b h3 h4 hx0 hx1 hr0 hr1 hB
  have p0 := pw_pos (x - 1)
  have p1 : pw f * 1 ≤ (r + pw f) * pw (x - 1) := Int.mul_le_mul (by omega) p0 (by omega) (by omega)
  have lt : pw f - 1 < (r + pw f) * pw (x - 1) := by omega
  have k1 : (2 : Int) ^ (23 - f).toNat = pw (23 - f) := rfl
  have v1 : IntKind.i64.wrap (x - 1 + f) = x - 1 + f := IntWalk.i64_in _ (by omega)
  have v2 : IntKind.i64.wrap (x - 1) = x - 1 := IntWalk.i64_in _ (by omega)
  have v3 : IntKind.i64.wrap x = x := IntWalk.i64_in _ (by omega)
  have v4 : IntKind.i64.wrap (23 - f) = 23 - f := IntWalk.i64_in _ (by omega)
  have v5 : 0 ≤ 23 - f := by omega
  have v6 : f ≤ 23 := by omega
  clear hB p1
  go_enter Try.func57, Try.ntmps57
  go_wp2_with (first | (go_at_call 62; refine (fractionOnes_any e f hg _).mono ?_; rintro rv w1 ⟨rfl, hb⟩; have ns : w.heap.size + 1 < w1.heap.size := hb.ltK; have n0 : w1.cell? ⟨w.heap.size, 0, none⟩ = some (.int .i64 e) := hb.cellK; have n1 : w1.cell? ⟨w.heap.size, 1, none⟩ = some (.int .i64 f) := hb.cellK; have n2 : w1.cell? ⟨w.heap.size + 1, 0, none⟩ = some (.int .i64 0) := hb.cellK; have n3 : w1.cell? ⟨w.heap.size + 1, 1, none⟩ = some (.int .i64 0) := hb.cellK; have n4 : w1.cell? ⟨w.heap.size + 1, 2, none⟩ = some (.int .i64 0) := hb.cellK; have nz0 : w1.frozen? ⟨w.heap.size + 1, 0, none⟩ = false := hb.frzK; have nz1 : w1.frozen? ⟨w.heap.size + 1, 1, none⟩ = false := hb.frzK; have nz2 : w1.frozen? ⟨w.heap.size + 1, 2, none⟩ = false := hb.frzK; (first | (have nx := hx.trK hb; clear hx) | have nx := hb); clear hb; try clear hs; try clear g0; try clear g1; try clear g2; try clear g3; try clear g4; try clear z0; try clear z1; try clear z2; have hx := nx; clear nx; have hs := ns; clear ns; have g0 := n0; clear n0; have g1 := n1; clear n1; have g2 := n2; clear n2; have g3 := n3; clear n3; have g4 := n4; clear n4; have z0 := nz0; clear nz0; have z1 := nz1; clear nz1; have z2 := nz2; clear nz2) | (simp only [bitsOf]))
  go_region_held3 (fun w' => w'.cell? ⟨w.heap.size, 0, none⟩ = some (.int .i64 e) ∧ w'.cell? ⟨w.heap.size, 1, none⟩ = some (.int .i64 f) ∧ w.heap.size + 1 < w'.heap.size) ((refine ⟨?_, ?_, ?_⟩ <;> first | with_reducible assumption | ((rw [cell_setRow_far _ _ _ _ _ (by omega)]); with_reducible assumption) | ((rw [setRow_size]); with_reducible assumption) | ((repeat rw [World.cell?_setCell_far _ _ _ _ (by simp)]); with_reducible assumption) | (simp; done) | (simp [World.setCell]; first | done | omega) | (simp [go_sem, World.cell?_alloc_past, World.cell?_setCell_far, *]; done))) ((first | (go_at_call 62; refine (fractionOnes_any e f hg _).mono ?_; rintro rv w1 ⟨rfl, hb⟩; have ns : w.heap.size + 1 < w1.heap.size := hb.ltK; have n0 : w1.cell? ⟨w.heap.size, 0, none⟩ = some (.int .i64 e) := hb.cellK; have n1 : w1.cell? ⟨w.heap.size, 1, none⟩ = some (.int .i64 f) := hb.cellK; have n2 : w1.cell? ⟨w.heap.size + 1, 0, none⟩ = some (.int .i64 0) := hb.cellK; have n3 : w1.cell? ⟨w.heap.size + 1, 1, none⟩ = some (.int .i64 0) := hb.cellK; have n4 : w1.cell? ⟨w.heap.size + 1, 2, none⟩ = some (.int .i64 0) := hb.cellK; have nz0 : w1.frozen? ⟨w.heap.size + 1, 0, none⟩ = false := hb.frzK; have nz1 : w1.frozen? ⟨w.heap.size + 1, 1, none⟩ = false := hb.frzK; have nz2 : w1.frozen? ⟨w.heap.size + 1, 2, none⟩ = false := hb.frzK; (first | (have nx := hx.trK hb; clear hx) | have nx := hb); clear hb; try clear hs; try clear g0; try clear g1; try clear g2; try clear g3; try clear g4; try clear z0; try clear z1; try clear z2; have hx := nx; clear nx; have hs := ns; clear ns; have g0 := n0; clear n0; have g1 := n1; clear n1; have g2 := n2; clear n2; have g3 := n3; clear n3; have g4 := n4; clear n4; have z0 := nz0; clear nz0; have z1 := nz1; clear nz1; have z2 := nz2; clear nz2)))
  go_wp2
  refine bodyPost_ret (v := .agg #[.int .i64 (0), .int .i64 (x), .int .i64 (r)]) (by simp [results, Try.results57, go_sem, *]) rfl ⟨rfl, Ext.auK⟩

theorem fieldsOfFloat_norm (e f x r : Int) (hg : goodB e f = true) (hx0 : 1 ≤ x) (hx1 : x < 31) (hr0 : 0 ≤ r) (hr1 : r < pw f) (w : World) : Calls Try.prog 57 #[fmt e f, .float .f32 (fbitsN f.toNat x.toNat r.toNat)] w fun rv w' => rv = .returned (.agg #[.int .i64 (0), .int .i64 (x), .int .i64 (r)]) ∧ Ext w w' := by
  obtain ⟨h1, h2, h3, h4⟩ := good_iff.1 hg
  obtain ⟨⟨q1, q2⟩, _, q4⟩ := fbits_eq f x r h3 h4 hx0 hx1 hr0 hr1
  exact fieldsOfFloat_bits e f x r _ hg hx0 hx1 hr0 hr1 (cut_norm f x r h3 h4 hx0 hx1 hr0 hr1) (by rw [← q4]; omega) w

theorem frontPlaces_any (f m : Int) (hf : 1 ≤ f) (hf2 : f ≤ 10) (hm0 : 0 ≤ m) (hm1 : m < 9223372036854775808) (w : World) : Calls Try.prog 55 #[.int .i64 m, .int .i64 (1 + f)] w fun rv w' => rv = .returned (.int .i64 (m / pw (bhV f m) * pw (bhV f m))) ∧ w = w' := by
  have L0 : (0 : Int) ≤ (Lib.bitLen m.toNat : Int) := Int.natCast_nonneg _
  have L1 : (Lib.bitLen m.toNat : Int) ≤ 63 := by
    by_cases h0 : m = 0
    · subst h0; show (Lib.bitLen 0 : Int) ≤ 63; rw [bl_zero]; decide
    · obtain ⟨b1, b2, b3⟩ := bl_bounds m.toNat (by omega) (by omega)
      have c1 : Lib.bitLen m.toNat - 1 < 63 := by
        apply (Nat.pow_lt_pow_iff_right (show 1 < 2 by decide)).1
        exact Nat.lt_of_le_of_lt b2 (by omega)
      omega
  have kb : max ((Lib.bitLen m.toNat : Int) - (1 + f)) 0 = bhV f m := rfl
  have B0 : 0 ≤ bhV f m := by unfold bhV; omega
  have B1 : bhV f m ≤ 61 := by unfold bhV; omega
  have p0 := pw_pos (bhV f m)
  have k1 := pw_of (bhV f m)
  have hd := Int.mul_ediv_add_emod m (pw (bhV f m))
  have hr0 := Int.emod_nonneg m (show pw (bhV f m) ≠ 0 by omega)
  rw [Int.mul_comm] at hd
  have d0 : 0 ≤ m / pw (bhV f m) * pw (bhV f m) := Int.mul_nonneg (Int.ediv_nonneg hm0 (by omega)) (by omega)
  have d1 : m / pw (bhV f m) * pw (bhV f m) ≤ m := by omega
  clear hd hr0
  go_enter Try.func55, Try.ntmps55
  go_wp2_with (go_at_call 103; refine (Try.bits_Len _ _ (by omega) (by omega)).mono ?_; rintro rv w1 ⟨rfl, rfl⟩)
  go_ret
  exact ⟨rfl, rfl⟩
end Go.Proofs.Ytmddlbphanlfhaa

namespace Go.Proofs.Ytmddlbphanlfhaa
open Go Go.RowKit
set_option linter.unusedSimpArgs false
set_option linter.unusedVariables false

/-- There are a format and a number of units. -/
def nbB (e f u : Int) : Bool := goodB e f && decide (0 ≤ u ∧ u ≤ 2199023255552)

/-- What is handed back. -/
def NearOut (e f u : Int) (w : World) (rv : Ending) (w' : World) : Prop := ∃ p : Int, rv = .returned (.tuple #[.int .i64 p, .bool true]) ∧ IsBelow f ((pw e - 1) * pw f - 1) u p ∧ Ext w w'

theorem nb_iff {e f u : Int} : nbB e f u = true ↔ goodB e f = true ∧ 0 ≤ u ∧ u ≤ 2199023255552 := by unfold nbB; simp

theorem sNearestBelow_no (e f u : Int) (hg : nbB e f u = false) (w : World) : Calls Try.prog 19 #[fmt e f, .int .i64 u] w fun rv w' => rv = .returned (.tuple #[.int .i64 0, .bool false]) ∧ Ext w w' := by
  cases h0 : goodB e f
  · go_enter Try.func19, Try.ntmps19
    go_wp2_with (go_at_call 58; refine (fmGood_any e f _).mono ?_; rintro rv w1 ⟨rfl, hb⟩; have ns : w.heap.size < w1.heap.size := hb.ltK; have n0 : w1.cell? ⟨w.heap.size, 0, none⟩ = some (.int .i64 e) := hb.cellK; have n1 : w1.cell? ⟨w.heap.size, 1, none⟩ = some (.int .i64 f) := hb.cellK; (first | (have nx := hx.trK hb; clear hx) | have nx := hb); clear hb; try clear hs; try clear g0; try clear g1; have hx := nx; clear nx; have hs := ns; clear ns; have g0 := n0; clear n0; have g1 := n1; clear n1)
    go_ret2
    exact ⟨rfl, Ext.auK⟩
  · have hd : decide (0 ≤ u ∧ u ≤ 2199023255552) = false := by unfold nbB at hg; rw [h0] at hg; simpa using hg
    clear hg
    go_enter Try.func19, Try.ntmps19
    go_wp2_with (first | (go_at_call 58; refine (fmGood_any e f _).mono ?_; rintro rv w1 ⟨rfl, hb⟩; have ns : w.heap.size < w1.heap.size := hb.ltK; have n0 : w1.cell? ⟨w.heap.size, 0, none⟩ = some (.int .i64 e) := hb.cellK; have n1 : w1.cell? ⟨w.heap.size, 1, none⟩ = some (.int .i64 f) := hb.cellK; (first | (have nx := hx.trK hb; clear hx) | have nx := hb); clear hb; try clear hs; try clear g0; try clear g1; have hx := nx; clear nx; have hs := ns; clear ns; have g0 := n0; clear n0; have g1 := n1; clear n1) | (go_at_call 59; refine (l1In_any _ _ _ _).mono ?_; rintro rv w1 ⟨rfl, rfl⟩))
    go_ret2
    exact ⟨rfl, Ext.auK⟩

theorem sNearestBelow_yes (e f u : Int) (hg : nbB e f u = true) (w : World) : Calls Try.prog 19 #[fmt e f, .int .i64 u] w (NearOut e f u w) := by
  obtain ⟨hg0, u0, u1⟩ := nb_iff.1 hg
  go_enter Try.func19, Try.ntmps19
  go_wp2_with (first | (go_at_call 58; refine (fmGood_any e f _).mono ?_; rintro rv w1 ⟨rfl, hb⟩; have ns : w.heap.size < w1.heap.size := hb.ltK; have n0 : w1.cell? ⟨w.heap.size, 0, none⟩ = some (.int .i64 e) := hb.cellK; have n1 : w1.cell? ⟨w.heap.size, 1, none⟩ = some (.int .i64 f) := hb.cellK; (first | (have nx := hx.trK hb; clear hx) | have nx := hb); clear hb; try clear hs; try clear g0; try clear g1; have hx := nx; clear nx; have hs := ns; clear ns; have g0 := n0; clear n0; have g1 := n1; clear n1) | (go_at_call 59; refine (l1In_any _ _ _ _).mono ?_; rintro rv w1 ⟨rfl, rfl⟩))
  go_at_call 60
  refine (fmBelow_any e f u hg0 u0 _).mono ?_
  rintro rv w2 ⟨q, rfl, hq, hb⟩
  go_wp2_with fail
  go_ret2
  exact ⟨q, rfl, hq, Ext.auK⟩

theorem iNearestBelow_no (e f u : Int) (hg : nbB e f u = false) (w : World) : Calls Try.prog 18 #[fmt e f, .int .i64 u] w fun rv w' => rv = .returned (.tuple #[.int .i64 0, .bool false]) ∧ Ext w w' := by
  cases h0 : goodB e f
  · go_enter Try.func18, Try.ntmps18
    go_wp2_with (go_at_call 54; refine (isFormat_any e f _).mono ?_; rintro rv w1 ⟨rfl, hb⟩; have ns : w.heap.size < w1.heap.size := hb.ltK; have n0 : w1.cell? ⟨w.heap.size, 0, none⟩ = some (.int .i64 e) := hb.cellK; have n1 : w1.cell? ⟨w.heap.size, 1, none⟩ = some (.int .i64 f) := hb.cellK; (first | (have nx := hx.trK hb; clear hx) | have nx := hb); clear hb; try clear hs; try clear g0; try clear g1; have hx := nx; clear nx; have hs := ns; clear ns; have g0 := n0; clear n0; have g1 := n1; clear n1)
    go_ret2
    exact ⟨rfl, Ext.auK⟩
  · have hd : ¬ (0 ≤ u ∧ u ≤ 2199023255552) := by unfold nbB at hg; rw [h0] at hg; simpa using hg
    clear hg
    by_cases hu : 0 ≤ u
    · have hu2 : ¬ u ≤ 2199023255552 := fun h => hd ⟨hu, h⟩
      clear hd
      go_enter Try.func18, Try.ntmps18
      go_wp2_with (go_at_call 54; refine (isFormat_any e f _).mono ?_; rintro rv w1 ⟨rfl, hb⟩; have ns : w.heap.size < w1.heap.size := hb.ltK; have n0 : w1.cell? ⟨w.heap.size, 0, none⟩ = some (.int .i64 e) := hb.cellK; have n1 : w1.cell? ⟨w.heap.size, 1, none⟩ = some (.int .i64 f) := hb.cellK; (first | (have nx := hx.trK hb; clear hx) | have nx := hb); clear hb; try clear hs; try clear g0; try clear g1; have hx := nx; clear nx; have hs := ns; clear ns; have g0 := n0; clear n0; have g1 := n1; clear n1)
      go_ret2
      exact ⟨rfl, Ext.auK⟩
    · clear hd
      go_enter Try.func18, Try.ntmps18
      go_wp2_with (go_at_call 54; refine (isFormat_any e f _).mono ?_; rintro rv w1 ⟨rfl, hb⟩; have ns : w.heap.size < w1.heap.size := hb.ltK; have n0 : w1.cell? ⟨w.heap.size, 0, none⟩ = some (.int .i64 e) := hb.cellK; have n1 : w1.cell? ⟨w.heap.size, 1, none⟩ = some (.int .i64 f) := hb.cellK; (first | (have nx := hx.trK hb; clear hx) | have nx := hb); clear hb; try clear hs; try clear g0; try clear g1; have hx := nx; clear nx; have hs := ns; clear ns; have g0 := n0; clear n0; have g1 := n1; clear n1)
      go_ret2
      exact ⟨rfl, Ext.auK⟩

theorem fin_great (e f : Int) (hg : goodB e f = true) : finB e f ((pw e - 1) * pw f - 1) = true := by
  obtain ⟨g0, g1⟩ := great_lt hg
  obtain ⟨h1, h2, h3, h4⟩ := good_iff.1 hg
  obtain ⟨_, ⟨b1, b2⟩, ⟨c1, c2⟩, hmul⟩ := pw_facts h1 h2 h3 h4
  have hp : patB e f ((pw e - 1) * pw f - 1) = true := pat_iff.2 ⟨hg, g0, by omega⟩
  unfold finB
  rw [hp, Bool.true_and, Int.emod_eq_of_lt g0 g1, decide_eq_true_eq]
  exact Int.ediv_lt_of_lt_mul (by omega) (by omega)

theorem iUnitsOf_great (e f : Int) (hg : goodB e f = true) (w : World) : Calls Try.prog 17 #[fmt e f, .int .i64 ((pw e - 1) * pw f - 1)] w fun rv w' => rv = .returned (.tuple #[.int .i64 (mgV f ((pw e - 1) * pw f - 1)), .bool true]) ∧ Ext w w' := by
  have := iUnitsOf_yes e f ((pw e - 1) * pw f - 1) (fin_great e f hg) w
  have hp := (fin_pat (fin_great e f hg)).1
  rwa [units_mg e f ((pw e - 1) * pw f - 1) hp (great_lt hg).2] at this

theorem frontPlaces_is (f m z : Int) (hf : 1 ≤ f) (hf2 : f ≤ 10) (hm0 : 0 ≤ m) (hm1 : m < 9223372036854775808) (hz : m / pw (bhV f m) * pw (bhV f m) = z) (w : World) : Calls Try.prog 55 #[.int .i64 m, .int .i64 (1 + f)] w fun rv w' => rv = .returned (.int .i64 z) ∧ w = w' := by
  have := frontPlaces_any f m hf hf2 hm0 hm1 w
  rwa [hz] at this

theorem fieldsOfFloat_size (e f x r : Int) (hg : goodB e f = true) (hx0 : 1 ≤ x) (hx1 : x < 31) (hr0 : 0 ≤ r) (hr1 : r < pw f) (w : World) : Calls Try.prog 57 #[fmt e f, .float .f32 (floatOfInt .f32 ((r + pw f) * pw (x - 1)))] w fun rv w' => rv = .returned (.agg #[.int .i64 0, .int .i64 x, .int .i64 r]) ∧ Ext w w' := by
  obtain ⟨h1, h2, h3, h4⟩ := good_iff.1 hg
  have h := chb_any f.toNat x.toNat r.toNat (by omega) (by omega) (by omega) (by omega) (by rw [← pw_nat] at hr1; omega)
  have e1 : (((r.toNat + 2 ^ f.toNat) * 2 ^ (x.toNat - 1) : Nat) : Int) = (r + pw f) * pw (x - 1) := by
    rw [Int.natCast_mul, Int.natCast_add, Int.toNat_of_nonneg hr0, pw_nat]
    congr 1
    rw [← pw_nat]
    congr 2
    omega
  rw [e1] at h
  rw [h]
  exact fieldsOfFloat_norm e f x r hg hx0 hx1 hr0 hr1 w

theorem near_cases (e f u : Int) (hg : goodB e f = true) (u0 : 0 ≤ u) (u1 : u ≤ 2199023255552) :
    (0 ≤ min u (mgV f ((pw e - 1) * pw f - 1)) ∧ min u (mgV f ((pw e - 1) * pw f - 1)) < 9223372036854775808) ∧ ((min u (mgV f ((pw e - 1) * pw f - 1)) < pw f ∧ min u (mgV f ((pw e - 1) * pw f - 1)) / pw (bhV f (min u (mgV f ((pw e - 1) * pw f - 1)))) * pw (bhV f (min u (mgV f ((pw e - 1) * pw f - 1)))) = min u (mgV f ((pw e - 1) * pw f - 1)) ∧ IsBelow f ((pw e - 1) * pw f - 1) u (min u (mgV f ((pw e - 1) * pw f - 1)))) ∨
      ∃ x r : Int, 1 ≤ x ∧ x < pw e - 1 ∧ 0 ≤ r ∧ r < pw f ∧ min u (mgV f ((pw e - 1) * pw f - 1)) / pw (bhV f (min u (mgV f ((pw e - 1) * pw f - 1)))) * pw (bhV f (min u (mgV f ((pw e - 1) * pw f - 1)))) = (r + pw f) * pw (x - 1) ∧ IsBelow f ((pw e - 1) * pw f - 1) u (x * pw f + r)) := by
  obtain ⟨h1, h2, h3, h4⟩ := good_iff.1 hg
  obtain ⟨_, ⟨b1, b2⟩, ⟨c1, c2⟩, hmul⟩ := pw_facts h1 h2 h3 h4
  obtain ⟨g0, g1⟩ := great_lt hg
  have m0 : 0 ≤ mgV f ((pw e - 1) * pw f - 1) := by
    have := mg_mono f 0 ((pw e - 1) * pw f - 1) h3 (by omega) g0
    rw [mg_small f 0 (by omega) (by omega)] at this
    exact this
  have hM0 : 0 ≤ min u (mgV f ((pw e - 1) * pw f - 1)) := by omega
  have hM1 : min u (mgV f ((pw e - 1) * pw f - 1)) < 9223372036854775808 := by omega
  refine ⟨⟨hM0, hM1⟩, ?_⟩
  have hb := below_of f ((pw e - 1) * pw f - 1) u
  rcases cut_cases f (min u (mgV f ((pw e - 1) * pw f - 1))) h3 hM0 hM1 with ⟨l1, l2⟩ | ⟨l0, l1, l2, l3, l4⟩
  · left
    refine ⟨l1, by rw [l2]; show min u (mgV f ((pw e - 1) * pw f - 1)) / 1 * 1 = _; rw [Int.ediv_one, Int.mul_one], hb _ h3 g0 hM0 ?_ ?_⟩
    · rw [mg_small f _ hM0 l1]; omega
    · rw [mg_step f _ h3 hM0, mg_small f _ hM0 l1]
      have := pw_pos (max 0 ((min u (mgV f ((pw e - 1) * pw f - 1))) / pw f - 1))
      omega
  · right
    have r0 : 0 ≤ min u (mgV f ((pw e - 1) * pw f - 1)) / pw (bhV f (min u (mgV f ((pw e - 1) * pw f - 1)))) - pw f := by omega
    have r1 : min u (mgV f ((pw e - 1) * pw f - 1)) / pw (bhV f (min u (mgV f ((pw e - 1) * pw f - 1)))) - pw f < pw f := by omega
    have hmg := mg_of f (bhV f (min u (mgV f ((pw e - 1) * pw f - 1))) + 1) (min u (mgV f ((pw e - 1) * pw f - 1)) / pw (bhV f (min u (mgV f ((pw e - 1) * pw f - 1)))) - pw f) h3 (by omega) r0 r1
    rw [show bhV f (min u (mgV f ((pw e - 1) * pw f - 1))) + 1 - 1 = bhV f (min u (mgV f ((pw e - 1) * pw f - 1))) by omega, show min u (mgV f ((pw e - 1) * pw f - 1)) / pw (bhV f (min u (mgV f ((pw e - 1) * pw f - 1)))) - pw f + pw f = min u (mgV f ((pw e - 1) * pw f - 1)) / pw (bhV f (min u (mgV f ((pw e - 1) * pw f - 1)))) by omega] at hmg
    have hx0 : 0 ≤ (bhV f (min u (mgV f ((pw e - 1) * pw f - 1))) + 1) * pw f := Int.mul_nonneg (by omega) (by omega)
    have hI := hb ((bhV f (min u (mgV f ((pw e - 1) * pw f - 1))) + 1) * pw f + (min u (mgV f ((pw e - 1) * pw f - 1)) / pw (bhV f (min u (mgV f ((pw e - 1) * pw f - 1)))) - pw f)) h3 g0 (by omega) (by rw [hmg.1]; exact l3) (by rw [hmg.2]; exact l4)
    refine ⟨bhV f (min u (mgV f ((pw e - 1) * pw f - 1))) + 1, min u (mgV f ((pw e - 1) * pw f - 1)) / pw (bhV f (min u (mgV f ((pw e - 1) * pw f - 1)))) - pw f, by omega, ?_, r0, r1, ?_, hI⟩
    · have h := hI.2.1
      by_cases hx : bhV f (min u (mgV f ((pw e - 1) * pw f - 1))) + 1 < pw e - 1
      · exact hx
      · have : (pw e - 1) * pw f ≤ (bhV f (min u (mgV f ((pw e - 1) * pw f - 1))) + 1) * pw f := Int.mul_le_mul_of_nonneg_right (by omega) (by omega)
        omega
    · rw [show bhV f (min u (mgV f ((pw e - 1) * pw f - 1))) + 1 - 1 = bhV f (min u (mgV f ((pw e - 1) * pw f - 1))) by omega, show min u (mgV f ((pw e - 1) * pw f - 1)) / pw (bhV f (min u (mgV f ((pw e - 1) * pw f - 1)))) - pw f + pw f = min u (mgV f ((pw e - 1) * pw f - 1)) / pw (bhV f (min u (mgV f ((pw e - 1) * pw f - 1)))) by omega]

set_option maxHeartbeats 1600000 in
theorem iNearestBelow_yes (e f u : Int) (hg : nbB e f u = true) (w : World) : Calls Try.prog 18 #[fmt e f, .int .i64 u] w (NearOut e f u w) := by
  obtain ⟨hg0, u0, u1⟩ := nb_iff.1 hg
  obtain ⟨h1, h2, h3, h4⟩ := good_iff.1 hg0
  have b1 := (pw_facts h1 h2 h3 h4).2.1.1
  have c1 := (pw_facts h1 h2 h3 h4).2.2.1.1
  have c2 := (pw_facts h1 h2 h3 h4).2.2.1.2
  obtain ⟨⟨M0, M1⟩, hc⟩ := near_cases e f u hg0 u0 u1
  rcases hc with ⟨l1, hz, hi⟩ | ⟨x, r, hx0, hx2, hr0, hr1, hz, hi⟩
  · have b0 : 0 < pw e := by omega
    have f0 : 0 < pw f := by omega
    have HZ := Lib.hid hz; have HI := Lib.hid hi; clear hz hi
    go_enter Try.func18, Try.ntmps18
    go_wp2_with (first | (go_at_call 54; refine (isFormat_any e f _).mono ?_; rintro rv w1 ⟨rfl, hb⟩; have ns : w.heap.size < w1.heap.size := hb.ltK; have n0 : w1.cell? ⟨w.heap.size, 0, none⟩ = some (.int .i64 e) := hb.cellK; have n1 : w1.cell? ⟨w.heap.size, 1, none⟩ = some (.int .i64 f) := hb.cellK; (first | (have nx := hx.trK hb; clear hx) | have nx := hb); clear hb; try clear hs; try clear g0; try clear g1; have hx := nx; clear nx; have hs := ns; clear ns; have g0 := n0; clear n0; have g1 := n1; clear n1) | (go_at_call 20; refine (iGreatestOf_yes e f hg0 _).mono ?_; rintro rv w1 ⟨rfl, hb⟩; have ns : w.heap.size < w1.heap.size := hb.ltK; have n0 : w1.cell? ⟨w.heap.size, 0, none⟩ = some (.int .i64 e) := hb.cellK; have n1 : w1.cell? ⟨w.heap.size, 1, none⟩ = some (.int .i64 f) := hb.cellK; (first | (have nx := hx.trK hb; clear hx) | have nx := hb); clear hb; try clear hs; try clear g0; try clear g1; have hx := nx; clear nx; have hs := ns; clear ns; have g0 := n0; clear n0; have g1 := n1; clear n1) | (go_at_call 17; refine (iUnitsOf_great e f hg0 _).mono ?_; rintro rv w1 ⟨rfl, hb⟩; have ns : w.heap.size < w1.heap.size := hb.ltK; have n0 : w1.cell? ⟨w.heap.size, 0, none⟩ = some (.int .i64 e) := hb.cellK; have n1 : w1.cell? ⟨w.heap.size, 1, none⟩ = some (.int .i64 f) := hb.cellK; (first | (have nx := hx.trK hb; clear hx) | have nx := hb); clear hb; try clear hs; try clear g0; try clear g1; have hx := nx; clear nx; have hs := ns; clear ns; have g0 := n0; clear n0; have g1 := n1; clear n1))
    (go_at_call 55; refine (frontPlaces_is f _ _ h3 h4 (by assumption) (by assumption) HZ.out _).mono ?_; rintro rv w1 ⟨rfl, rfl⟩)
    go_wp2_with fail
    go_region_held3 (fun w' => w'.cell? ⟨w.heap.size, 0, none⟩ = some (.int .i64 e) ∧ w'.cell? ⟨w.heap.size, 1, none⟩ = some (.int .i64 f) ∧ w.heap.size < w'.heap.size) ((refine ⟨?_, ?_, ?_⟩ <;> first | with_reducible assumption | ((rw [cell_setRow_far _ _ _ _ _ (by omega)]); with_reducible assumption) | ((rw [setRow_size]); with_reducible assumption) | ((repeat rw [World.cell?_setCell_far _ _ _ _ (by simp)]); with_reducible assumption) | (simp; done) | (simp [World.setCell]; first | done | omega) | (simp [go_sem, World.cell?_alloc_past, World.cell?_setCell_far, *]; done))) ((first | (go_at_call 57; refine (fieldsOfFloat_sub e f _ hg0 (by assumption) (by assumption) _).mono ?_; rintro rv w1 ⟨rfl, hb⟩; have ns : w.heap.size < w1.heap.size := hb.ltK; have n0 : w1.cell? ⟨w.heap.size, 0, none⟩ = some (.int .i64 e) := hb.cellK; have n1 : w1.cell? ⟨w.heap.size, 1, none⟩ = some (.int .i64 f) := hb.cellK; (first | (have nx := hx.trK hb; clear hx) | have nx := hb); clear hb; try clear hs; try clear g0; try clear g1; have hx := nx; clear nx; have hs := ns; clear ns; have g0 := n0; clear n0; have g1 := n1; clear n1) | (go_at_call 56; refine (patternOf_any e f _ _ _ hg0 (by omega) (by omega) (by omega) (by omega) (by omega) (by omega) _).mono ?_; rintro rv w1 ⟨rfl, hb⟩; have ns : w.heap.size < w1.heap.size := hb.ltK; have n0 : w1.cell? ⟨w.heap.size, 0, none⟩ = some (.int .i64 e) := hb.cellK; have n1 : w1.cell? ⟨w.heap.size, 1, none⟩ = some (.int .i64 f) := hb.cellK; (first | (have nx := hx.trK hb; clear hx) | have nx := hb); clear hb; try clear hs; try clear g0; try clear g1; have hx := nx; clear nx; have hs := ns; clear ns; have g0 := n0; clear n0; have g1 := n1; clear n1)))
    go_wp2
    go_ret2
    exact ⟨_, rfl, HI.out, Ext.auK⟩
  · have b2 := (pw_facts h1 h2 h3 h4).2.1.2
    have hx1 : x < 31 := by omega
    have hx3 : x < pw e := by omega
    have HZ := Lib.hid hz; have HI := Lib.hid hi; clear hz hi
    go_enter Try.func18, Try.ntmps18
    go_wp2_with (first | (go_at_call 54; refine (isFormat_any e f _).mono ?_; rintro rv w1 ⟨rfl, hb⟩; have ns : w.heap.size < w1.heap.size := hb.ltK; have n0 : w1.cell? ⟨w.heap.size, 0, none⟩ = some (.int .i64 e) := hb.cellK; have n1 : w1.cell? ⟨w.heap.size, 1, none⟩ = some (.int .i64 f) := hb.cellK; (first | (have nx := hx.trK hb; clear hx) | have nx := hb); clear hb; try clear hs; try clear g0; try clear g1; have hx := nx; clear nx; have hs := ns; clear ns; have g0 := n0; clear n0; have g1 := n1; clear n1) | (go_at_call 20; refine (iGreatestOf_yes e f hg0 _).mono ?_; rintro rv w1 ⟨rfl, hb⟩; have ns : w.heap.size < w1.heap.size := hb.ltK; have n0 : w1.cell? ⟨w.heap.size, 0, none⟩ = some (.int .i64 e) := hb.cellK; have n1 : w1.cell? ⟨w.heap.size, 1, none⟩ = some (.int .i64 f) := hb.cellK; (first | (have nx := hx.trK hb; clear hx) | have nx := hb); clear hb; try clear hs; try clear g0; try clear g1; have hx := nx; clear nx; have hs := ns; clear ns; have g0 := n0; clear n0; have g1 := n1; clear n1) | (go_at_call 17; refine (iUnitsOf_great e f hg0 _).mono ?_; rintro rv w1 ⟨rfl, hb⟩; have ns : w.heap.size < w1.heap.size := hb.ltK; have n0 : w1.cell? ⟨w.heap.size, 0, none⟩ = some (.int .i64 e) := hb.cellK; have n1 : w1.cell? ⟨w.heap.size, 1, none⟩ = some (.int .i64 f) := hb.cellK; (first | (have nx := hx.trK hb; clear hx) | have nx := hb); clear hb; try clear hs; try clear g0; try clear g1; have hx := nx; clear nx; have hs := ns; clear ns; have g0 := n0; clear n0; have g1 := n1; clear n1))
    (go_at_call 55; refine (frontPlaces_is f _ _ h3 h4 (by assumption) (by assumption) HZ.out _).mono ?_; rintro rv w1 ⟨rfl, rfl⟩)
    go_wp2_with fail
    go_region_held3 (fun w' => w'.cell? ⟨w.heap.size, 0, none⟩ = some (.int .i64 e) ∧ w'.cell? ⟨w.heap.size, 1, none⟩ = some (.int .i64 f) ∧ w.heap.size < w'.heap.size) ((refine ⟨?_, ?_, ?_⟩ <;> first | with_reducible assumption | ((rw [cell_setRow_far _ _ _ _ _ (by omega)]); with_reducible assumption) | ((rw [setRow_size]); with_reducible assumption) | ((repeat rw [World.cell?_setCell_far _ _ _ _ (by simp)]); with_reducible assumption) | (simp; done) | (simp [World.setCell]; first | done | omega) | (simp [go_sem, World.cell?_alloc_past, World.cell?_setCell_far, *]; done))) ((first | (go_at_call 57; refine (fieldsOfFloat_size e f _ _ hg0 (by assumption) (by assumption) (by assumption) (by assumption) _).mono ?_; rintro rv w1 ⟨rfl, hb⟩; have ns : w.heap.size < w1.heap.size := hb.ltK; have n0 : w1.cell? ⟨w.heap.size, 0, none⟩ = some (.int .i64 e) := hb.cellK; have n1 : w1.cell? ⟨w.heap.size, 1, none⟩ = some (.int .i64 f) := hb.cellK; (first | (have nx := hx.trK hb; clear hx) | have nx := hb); clear hb; try clear hs; try clear g0; try clear g1; have hx := nx; clear nx; have hs := ns; clear ns; have g0 := n0; clear n0; have g1 := n1; clear n1) | (go_at_call 56; refine (patternOf_any e f _ _ _ hg0 (by omega) (by omega) (by omega) (by omega) (by omega) (by omega) _).mono ?_; rintro rv w1 ⟨rfl, hb⟩; have ns : w.heap.size < w1.heap.size := hb.ltK; have n0 : w1.cell? ⟨w.heap.size, 0, none⟩ = some (.int .i64 e) := hb.cellK; have n1 : w1.cell? ⟨w.heap.size, 1, none⟩ = some (.int .i64 f) := hb.cellK; (first | (have nx := hx.trK hb; clear hx) | have nx := hb); clear hb; try clear hs; try clear g0; try clear g1; have hx := nx; clear nx; have hs := ns; clear ns; have g0 := n0; clear n0; have g1 := n1; clear n1)))
    go_wp2
    go_ret2
    exact ⟨_, rfl, HI.out, Ext.auK⟩
end Go.Proofs.Ytmddlbphanlfhaa

namespace Go.Proofs.Ytmddlbphanlfhaa
open Go Go.RowKit
set_option linter.unusedSimpArgs false
set_option linter.unusedVariables false

/-- There are a format and a number of units, of whatever sign. -/
def puB (e f u : Int) : Bool := goodB e f && decide (-2199023255552 ≤ u ∧ u ≤ 2199023255552)

theorem pu_iff {e f u : Int} : puB e f u = true ↔ goodB e f = true ∧ -2199023255552 ≤ u ∧ u ≤ 2199023255552 := by unfold puB; simp

def puV (e f u p : Int) : Int := if (mgV f p == max u (-u)) = true then (if u < 0 then pw (e + f) + p else p) else 0

/-- What is handed back: the pattern below, if it has just so many units. -/
def PuOut (e f u : Int) (w : World) (rv : Ending) (w' : World) : Prop := ∃ p : Int, rv = .returned (.tuple #[.int .i64 (puV e f u p), .bool (mgV f p == max u (-u))]) ∧ IsBelow f ((pw e - 1) * pw f - 1) (max u (-u)) p ∧ Ext w w'

theorem pu_mk {e f u : Int} {w w' : World} {rv : Ending} (p v : Int) (b : Bool) (hv : puV e f u p = v) (hb : (mgV f p == max u (-u)) = b) (h : rv = .returned (.tuple #[.int .i64 v, .bool b])) (hp : IsBelow f ((pw e - 1) * pw f - 1) (max u (-u)) p) (hx : Ext w w') : PuOut e f u w rv w' :=
  ⟨p, by rw [hv, hb]; exact h, hp, hx⟩

theorem fmUnitsIn_any (u : Int) (w : World) : Calls Try.prog 64 #[.int .i64 u] w fun rv w' => rv = .returned (.bool (decide (-2199023255552 ≤ u ∧ u ≤ 2199023255552))) ∧ w = w' := by
  go_enter Try.func64, Try.ntmps64
  go_wp2_with (go_at_call 59; refine (l1In_any _ _ _ _).mono ?_; rintro rv w1 ⟨rfl, rfl⟩)
  go_ret
  exact ⟨ret_bool (by simp), rfl⟩

theorem l1Abs_any (u : Int) (h0 : -2199023255552 ≤ u) (h1 : u ≤ 2199023255552) (w : World) : Calls Try.prog 65 #[.int .i64 u] w fun rv w' => rv = .returned (.int .i64 (max u (-u))) ∧ w = w' := by
  go_enter Try.func65, Try.ntmps65
  go_wp2_with (go_at_call 105; refine (l1Most_any _ _ _).mono ?_; rintro rv w1 ⟨rfl, rfl⟩)
  go_ret
  exact ⟨rfl, rfl⟩

theorem below_pat (e f u p : Int) (hg : goodB e f = true) (hp : IsBelow f ((pw e - 1) * pw f - 1) u p) : patB e f p = true ∧ p < pw (e + f) ∧ finB e f p = true := by
  obtain ⟨g0, g1⟩ := great_lt hg
  obtain ⟨p0, p1, _, _⟩ := hp
  obtain ⟨h1, h2, h3, h4⟩ := good_iff.1 hg
  obtain ⟨_, ⟨b1, b2⟩, ⟨c1, c2⟩, hmul⟩ := pw_facts h1 h2 h3 h4
  have hpat : patB e f p = true := pat_iff.2 ⟨hg, p0, by omega⟩
  refine ⟨hpat, by omega, ?_⟩
  unfold finB
  rw [hpat, Bool.true_and, Int.emod_eq_of_lt p0 (by omega), decide_eq_true_eq]
  exact Int.ediv_lt_of_lt_mul (by omega) (by omega)

theorem fmUnits_mg (e f p : Int) (hp : patB e f p = true) (h : p < pw (e + f)) (w : World) : Calls Try.prog 66 #[fmt e f, .int .i64 p] w fun rv w' => rv = .returned (.int .i64 (mgV f p)) ∧ Ext w w' := by
  have := fmUnits_any e f p hp w
  rwa [units_mg e f p hp h] at this

theorem iUnits_mg (e f p : Int) (hf : finB e f p = true) (h : p < pw (e + f)) (w : World) : Calls Try.prog 17 #[fmt e f, .int .i64 p] w fun rv w' => rv = .returned (.tuple #[.int .i64 (mgV f p), .bool true]) ∧ Ext w w' := by
  have := iUnitsOf_yes e f p hf w
  rwa [units_mg e f p (fin_pat hf).1 h] at this

theorem neg_units (e f p : Int) (hg : goodB e f = true) (p0 : 0 ≤ p) (hf : finB e f p = true) (h : p < pw (e + f)) : finB e f (p + pw (e + f)) = true ∧ unitsV e f (p + pw (e + f)) = -mgV f p := by
  obtain ⟨n1, n2, n3⟩ := sum_of e f 1 p hg (by decide) (by decide) p0 h
  rw [Int.one_mul, Int.add_comm] at n1 n2 n3
  have e1 := Int.emod_eq_of_lt p0 h
  have hx := (fin_pat hf).2
  rw [e1] at hx
  have r1 := (size_fact e f _ n1).2
  rw [n3] at r1
  constructor
  · unfold finB; rw [n1, n3, Bool.true_and, decide_eq_true_eq]; exact hx
  · unfold unitsV magV mgV
    rw [n2, n3, r1]
    rfl

theorem iUnits_neg (e f p : Int) (hg : goodB e f = true) (p0 : 0 ≤ p) (hf : finB e f p = true) (h : p < pw (e + f)) (w : World) : Calls Try.prog 17 #[fmt e f, .int .i64 (p + pw (e + f))] w fun rv w' => rv = .returned (.tuple #[.int .i64 (-mgV f p), .bool true]) ∧ Ext w w' := by
  obtain ⟨q1, q2⟩ := neg_units e f p hg p0 hf h
  have := iUnitsOf_yes e f _ q1 w
  rwa [q2] at this

theorem sPu_no (e f u : Int) (hg : puB e f u = false) (w : World) : Calls Try.prog 25 #[fmt e f, .int .i64 u] w fun rv w' => rv = .returned (.tuple #[.int .i64 0, .bool false]) ∧ Ext w w' := by
  cases h0 : goodB e f
  · go_enter Try.func25, Try.ntmps25
    go_wp2_with (go_at_call 58; refine (fmGood_any e f _).mono ?_; rintro rv w1 ⟨rfl, hb⟩; have ns : w.heap.size < w1.heap.size := hb.ltK; have n0 : w1.cell? ⟨w.heap.size, 0, none⟩ = some (.int .i64 e) := hb.cellK; have n1 : w1.cell? ⟨w.heap.size, 1, none⟩ = some (.int .i64 f) := hb.cellK; (first | (have nx := hx.trK hb; clear hx) | have nx := hb); clear hb; try clear hs; try clear g0; try clear g1; have hx := nx; clear nx; have hs := ns; clear ns; have g0 := n0; clear n0; have g1 := n1; clear n1)
    go_ret2
    exact ⟨rfl, Ext.auK⟩
  · have hd : decide (-2199023255552 ≤ u ∧ u ≤ 2199023255552) = false := by unfold puB at hg; rw [h0] at hg; simpa using hg
    clear hg
    go_enter Try.func25, Try.ntmps25
    go_wp2_with (first | (go_at_call 58; refine (fmGood_any e f _).mono ?_; rintro rv w1 ⟨rfl, hb⟩; have ns : w.heap.size < w1.heap.size := hb.ltK; have n0 : w1.cell? ⟨w.heap.size, 0, none⟩ = some (.int .i64 e) := hb.cellK; have n1 : w1.cell? ⟨w.heap.size, 1, none⟩ = some (.int .i64 f) := hb.cellK; (first | (have nx := hx.trK hb; clear hx) | have nx := hb); clear hb; try clear hs; try clear g0; try clear g1; have hx := nx; clear nx; have hs := ns; clear ns; have g0 := n0; clear n0; have g1 := n1; clear n1) | (go_at_call 64; refine (fmUnitsIn_any _ _).mono ?_; rintro rv w1 ⟨rfl, rfl⟩))
    go_ret2
    exact ⟨rfl, Ext.auK⟩

set_option maxHeartbeats 1600000 in
theorem sPu_yes (e f u : Int) (hg : puB e f u = true) (w : World) : Calls Try.prog 25 #[fmt e f, .int .i64 u] w (PuOut e f u w) := by
  obtain ⟨hg0, u0, u1⟩ := pu_iff.1 hg
  obtain ⟨h1, h2, h3, h4⟩ := good_iff.1 hg0
  have a2 := (pw_facts h1 h2 h3 h4).1.2
  have v0 : 0 ≤ max u (-u) := by omega
  go_enter Try.func25, Try.ntmps25
  go_wp2_with (first | (go_at_call 58; refine (fmGood_any e f _).mono ?_; rintro rv w1 ⟨rfl, hb⟩; have ns : w.heap.size < w1.heap.size := hb.ltK; have n0 : w1.cell? ⟨w.heap.size, 0, none⟩ = some (.int .i64 e) := hb.cellK; have n1 : w1.cell? ⟨w.heap.size, 1, none⟩ = some (.int .i64 f) := hb.cellK; (first | (have nx := hx.trK hb; clear hx) | have nx := hb); clear hb; try clear hs; try clear g0; try clear g1; have hx := nx; clear nx; have hs := ns; clear ns; have g0 := n0; clear n0; have g1 := n1; clear n1) | (go_at_call 64; refine (fmUnitsIn_any _ _).mono ?_; rintro rv w1 ⟨rfl, rfl⟩))
  go_region_held3 (fun w' => w'.cell? ⟨w.heap.size, 0, none⟩ = some (.int .i64 e) ∧ w'.cell? ⟨w.heap.size, 1, none⟩ = some (.int .i64 f) ∧ w.heap.size < w'.heap.size) ((refine ⟨?_, ?_, ?_⟩ <;> first | with_reducible assumption | ((rw [cell_setRow_far _ _ _ _ _ (by omega)]); with_reducible assumption) | ((rw [setRow_size]); with_reducible assumption) | ((repeat rw [World.cell?_setCell_far _ _ _ _ (by simp)]); with_reducible assumption) | (simp; done) | (simp [World.setCell]; first | done | omega) | (simp [go_sem, World.cell?_alloc_past, World.cell?_setCell_far, *]; done))) ((first | (go_at_call 65; refine (l1Abs_any _ u0 u1 _).mono ?_; rintro rv w1 ⟨rfl, rfl⟩) | (go_at_call 60; refine (fmBelow_any e f _ hg0 v0 _).mono ?_; rintro rv w1 ⟨p, rfl, hp, hb⟩; have ns : w.heap.size < w1.heap.size := hb.ltK; have n0 : w1.cell? ⟨w.heap.size, 0, none⟩ = some (.int .i64 e) := hb.cellK; have n1 : w1.cell? ⟨w.heap.size, 1, none⟩ = some (.int .i64 f) := hb.cellK; (first | (have nx := hx.trK hb; clear hx) | have nx := hb); clear hb; try clear hs; try clear g0; try clear g1; have hx := nx; clear nx; have hs := ns; clear ns; have g0 := n0; clear n0; have g1 := n1; clear n1)))
  obtain ⟨hpat, hlt, _⟩ := below_pat e f _ p hg0 hp
  have p0 := hp.1
  cases d : (mgV f p == max u (-u))
  · have hv : puV e f u p = 0 := by unfold puV; rw [d]; rfl
    have HV := Lib.hid hv; clear hv
    go_wp2_with (first | (go_at_call 66; refine (fmUnits_mg e f _ hpat hlt _).mono ?_; rintro rv w1 ⟨rfl, hb⟩; have ns : w.heap.size < w1.heap.size := hb.ltK; have n0 : w1.cell? ⟨w.heap.size, 0, none⟩ = some (.int .i64 e) := hb.cellK; have n1 : w1.cell? ⟨w.heap.size, 1, none⟩ = some (.int .i64 f) := hb.cellK; (first | (have nx := hx.trK hb; clear hx) | have nx := hb); clear hb; try clear hs; try clear g0; try clear g1; have hx := nx; clear nx; have hs := ns; clear ns; have g0 := n0; clear n0; have g1 := n1; clear n1) | (go_at_call 65; refine (l1Abs_any _ u0 u1 _).mono ?_; rintro rv w1 ⟨rfl, rfl⟩))
    go_ret2
    exact pu_mk p _ _ HV.out d rfl hp Ext.auK
  · by_cases hu : u < 0
    · have hv : puV e f u p = pw (e + f) + p := by unfold puV; rw [d, if_pos rfl, if_pos hu]
      have HV := Lib.hid hv; clear hv
      go_wp2_with (first | (go_at_call 66; refine (fmUnits_mg e f _ hpat hlt _).mono ?_; rintro rv w1 ⟨rfl, hb⟩; have ns : w.heap.size < w1.heap.size := hb.ltK; have n0 : w1.cell? ⟨w.heap.size, 0, none⟩ = some (.int .i64 e) := hb.cellK; have n1 : w1.cell? ⟨w.heap.size, 1, none⟩ = some (.int .i64 f) := hb.cellK; (first | (have nx := hx.trK hb; clear hx) | have nx := hb); clear hb; try clear hs; try clear g0; try clear g1; have hx := nx; clear nx; have hs := ns; clear ns; have g0 := n0; clear n0; have g1 := n1; clear n1) | (go_at_call 65; refine (l1Abs_any _ u0 u1 _).mono ?_; rintro rv w1 ⟨rfl, rfl⟩) | (go_at_call 67; refine (fmOf_any e f _ _ hg0 (by omega) (by omega) (by omega) (by omega) _).mono ?_; rintro rv w1 ⟨rfl, hb⟩; have ns : w.heap.size < w1.heap.size := hb.ltK; have n0 : w1.cell? ⟨w.heap.size, 0, none⟩ = some (.int .i64 e) := hb.cellK; have n1 : w1.cell? ⟨w.heap.size, 1, none⟩ = some (.int .i64 f) := hb.cellK; (first | (have nx := hx.trK hb; clear hx) | have nx := hb); clear hb; try clear hs; try clear g0; try clear g1; have hx := nx; clear nx; have hs := ns; clear ns; have g0 := n0; clear n0; have g1 := n1; clear n1))
      go_ret2
      exact pu_mk p _ _ HV.out d rfl hp Ext.auK
    · have hv : puV e f u p = p := by unfold puV; rw [d, if_pos rfl, if_neg hu]
      have HV := Lib.hid hv; clear hv
      go_wp2_with (first | (go_at_call 66; refine (fmUnits_mg e f _ hpat hlt _).mono ?_; rintro rv w1 ⟨rfl, hb⟩; have ns : w.heap.size < w1.heap.size := hb.ltK; have n0 : w1.cell? ⟨w.heap.size, 0, none⟩ = some (.int .i64 e) := hb.cellK; have n1 : w1.cell? ⟨w.heap.size, 1, none⟩ = some (.int .i64 f) := hb.cellK; (first | (have nx := hx.trK hb; clear hx) | have nx := hb); clear hb; try clear hs; try clear g0; try clear g1; have hx := nx; clear nx; have hs := ns; clear ns; have g0 := n0; clear n0; have g1 := n1; clear n1) | (go_at_call 65; refine (l1Abs_any _ u0 u1 _).mono ?_; rintro rv w1 ⟨rfl, rfl⟩) | (go_at_call 67; refine (fmOf_any e f _ _ hg0 (by omega) (by omega) (by omega) (by omega) _).mono ?_; rintro rv w1 ⟨rfl, hb⟩; have ns : w.heap.size < w1.heap.size := hb.ltK; have n0 : w1.cell? ⟨w.heap.size, 0, none⟩ = some (.int .i64 e) := hb.cellK; have n1 : w1.cell? ⟨w.heap.size, 1, none⟩ = some (.int .i64 f) := hb.cellK; (first | (have nx := hx.trK hb; clear hx) | have nx := hb); clear hb; try clear hs; try clear g0; try clear g1; have hx := nx; clear nx; have hs := ns; clear ns; have g0 := n0; clear n0; have g1 := n1; clear n1))
      go_ret2
      exact pu_mk p _ _ HV.out d rfl hp Ext.auK

set_option maxHeartbeats 1600000 in
theorem iPu_yes (e f u : Int) (hg : puB e f u = true) (w : World) : Calls Try.prog 24 #[fmt e f, .int .i64 u] w (PuOut e f u w) := by
  obtain ⟨hg0, u0, u1⟩ := pu_iff.1 hg
  obtain ⟨h1, h2, h3, h4⟩ := good_iff.1 hg0
  have a1 := (pw_facts h1 h2 h3 h4).1.1
  have a2 := (pw_facts h1 h2 h3 h4).1.2
  have hnb : nbB e f (max u (-u)) = true := nb_iff.2 ⟨hg0, by omega, by omega⟩
  by_cases hu : u < 0
  · go_enter Try.func24, Try.ntmps24
    go_wp2_with fail
    (go_at_call 18; refine (iNearestBelow_yes e f _ hnb _).mono ?_; rintro rv w1 ⟨p, rfl, hp, hb⟩; have ns : w.heap.size < w1.heap.size := hb.ltK; have n0 : w1.cell? ⟨w.heap.size, 0, none⟩ = some (.int .i64 e) := hb.cellK; have n1 : w1.cell? ⟨w.heap.size, 1, none⟩ = some (.int .i64 f) := hb.cellK; (first | (have nx := hx.trK hb; clear hx) | have nx := hb); clear hb; try clear hs; try clear g0; try clear g1; have hx := nx; clear nx; have hs := ns; clear ns; have g0 := n0; clear n0; have g1 := n1; clear n1)
    obtain ⟨hpat, hlt, hfin⟩ := below_pat e f _ p hg0 hp
    have p0 := hp.1
    cases d : (mgV f p == max u (-u))
    · have hv : puV e f u p = 0 := by unfold puV; rw [d]; rfl
      have d2 : (-mgV f p == u) = false := by simp at d ⊢; omega
      have HV := Lib.hid hv; have D := Lib.hid d; clear hv d
      go_wp2_with (first | (go_at_call 44; refine (signBit_any e f hg0 _).mono ?_; rintro rv w1 ⟨rfl, hb⟩; have ns : w.heap.size < w1.heap.size := hb.ltK; have n0 : w1.cell? ⟨w.heap.size, 0, none⟩ = some (.int .i64 e) := hb.cellK; have n1 : w1.cell? ⟨w.heap.size, 1, none⟩ = some (.int .i64 f) := hb.cellK; (first | (have nx := hx.trK hb; clear hx) | have nx := hb); clear hb; try clear hs; try clear g0; try clear g1; have hx := nx; clear nx; have hs := ns; clear ns; have g0 := n0; clear n0; have g1 := n1; clear n1) | (go_at_call 17; refine (iUnits_neg e f p hg0 p0 hfin hlt _).mono ?_; rintro rv w1 ⟨rfl, hb⟩; have ns : w.heap.size < w1.heap.size := hb.ltK; have n0 : w1.cell? ⟨w.heap.size, 0, none⟩ = some (.int .i64 e) := hb.cellK; have n1 : w1.cell? ⟨w.heap.size, 1, none⟩ = some (.int .i64 f) := hb.cellK; (first | (have nx := hx.trK hb; clear hx) | have nx := hb); clear hb; try clear hs; try clear g0; try clear g1; have hx := nx; clear nx; have hs := ns; clear ns; have g0 := n0; clear n0; have g1 := n1; clear n1))
      go_ret2
      exact pu_mk p _ _ HV.out D.out rfl hp Ext.auK
    · have hv : puV e f u p = p + pw (e + f) := by unfold puV; rw [d, if_pos rfl, if_pos hu]; omega
      have d2 : (-mgV f p == u) = true := by simp at d ⊢; omega
      have HV := Lib.hid hv; have D := Lib.hid d; clear hv d
      go_wp2_with (first | (go_at_call 44; refine (signBit_any e f hg0 _).mono ?_; rintro rv w1 ⟨rfl, hb⟩; have ns : w.heap.size < w1.heap.size := hb.ltK; have n0 : w1.cell? ⟨w.heap.size, 0, none⟩ = some (.int .i64 e) := hb.cellK; have n1 : w1.cell? ⟨w.heap.size, 1, none⟩ = some (.int .i64 f) := hb.cellK; (first | (have nx := hx.trK hb; clear hx) | have nx := hb); clear hb; try clear hs; try clear g0; try clear g1; have hx := nx; clear nx; have hs := ns; clear ns; have g0 := n0; clear n0; have g1 := n1; clear n1) | (go_at_call 17; refine (iUnits_neg e f p hg0 p0 hfin hlt _).mono ?_; rintro rv w1 ⟨rfl, hb⟩; have ns : w.heap.size < w1.heap.size := hb.ltK; have n0 : w1.cell? ⟨w.heap.size, 0, none⟩ = some (.int .i64 e) := hb.cellK; have n1 : w1.cell? ⟨w.heap.size, 1, none⟩ = some (.int .i64 f) := hb.cellK; (first | (have nx := hx.trK hb; clear hx) | have nx := hb); clear hb; try clear hs; try clear g0; try clear g1; have hx := nx; clear nx; have hs := ns; clear ns; have g0 := n0; clear n0; have g1 := n1; clear n1))
      go_ret2
      exact pu_mk p _ _ HV.out D.out rfl hp Ext.auK
  · go_enter Try.func24, Try.ntmps24
    go_wp2_with fail
    (go_at_call 18; refine (iNearestBelow_yes e f _ hnb _).mono ?_; rintro rv w1 ⟨p, rfl, hp, hb⟩; have ns : w.heap.size < w1.heap.size := hb.ltK; have n0 : w1.cell? ⟨w.heap.size, 0, none⟩ = some (.int .i64 e) := hb.cellK; have n1 : w1.cell? ⟨w.heap.size, 1, none⟩ = some (.int .i64 f) := hb.cellK; (first | (have nx := hx.trK hb; clear hx) | have nx := hb); clear hb; try clear hs; try clear g0; try clear g1; have hx := nx; clear nx; have hs := ns; clear ns; have g0 := n0; clear n0; have g1 := n1; clear n1)
    obtain ⟨hpat, hlt, hfin⟩ := below_pat e f _ p hg0 hp
    have p0 := hp.1
    cases d : (mgV f p == max u (-u))
    · have hv : puV e f u p = 0 := by unfold puV; rw [d]; rfl
      have d2 : (mgV f p == u) = false := by simp at d ⊢; omega
      have HV := Lib.hid hv; have D := Lib.hid d; clear hv d
      go_wp2_with (first | (go_at_call 44; refine (signBit_any e f hg0 _).mono ?_; rintro rv w1 ⟨rfl, hb⟩; have ns : w.heap.size < w1.heap.size := hb.ltK; have n0 : w1.cell? ⟨w.heap.size, 0, none⟩ = some (.int .i64 e) := hb.cellK; have n1 : w1.cell? ⟨w.heap.size, 1, none⟩ = some (.int .i64 f) := hb.cellK; (first | (have nx := hx.trK hb; clear hx) | have nx := hb); clear hb; try clear hs; try clear g0; try clear g1; have hx := nx; clear nx; have hs := ns; clear ns; have g0 := n0; clear n0; have g1 := n1; clear n1) | (go_at_call 17; refine (iUnits_mg e f _ hfin hlt _).mono ?_; rintro rv w1 ⟨rfl, hb⟩; have ns : w.heap.size < w1.heap.size := hb.ltK; have n0 : w1.cell? ⟨w.heap.size, 0, none⟩ = some (.int .i64 e) := hb.cellK; have n1 : w1.cell? ⟨w.heap.size, 1, none⟩ = some (.int .i64 f) := hb.cellK; (first | (have nx := hx.trK hb; clear hx) | have nx := hb); clear hb; try clear hs; try clear g0; try clear g1; have hx := nx; clear nx; have hs := ns; clear ns; have g0 := n0; clear n0; have g1 := n1; clear n1))
      go_ret2
      exact pu_mk p _ _ HV.out D.out rfl hp Ext.auK
    · have hv : puV e f u p = p := by unfold puV; rw [d, if_pos rfl, if_neg (by omega)]
      have d2 : (mgV f p == u) = true := by simp at d ⊢; omega
      have HV := Lib.hid hv; have D := Lib.hid d; clear hv d
      go_wp2_with (first | (go_at_call 44; refine (signBit_any e f hg0 _).mono ?_; rintro rv w1 ⟨rfl, hb⟩; have ns : w.heap.size < w1.heap.size := hb.ltK; have n0 : w1.cell? ⟨w.heap.size, 0, none⟩ = some (.int .i64 e) := hb.cellK; have n1 : w1.cell? ⟨w.heap.size, 1, none⟩ = some (.int .i64 f) := hb.cellK; (first | (have nx := hx.trK hb; clear hx) | have nx := hb); clear hb; try clear hs; try clear g0; try clear g1; have hx := nx; clear nx; have hs := ns; clear ns; have g0 := n0; clear n0; have g1 := n1; clear n1) | (go_at_call 17; refine (iUnits_mg e f _ hfin hlt _).mono ?_; rintro rv w1 ⟨rfl, hb⟩; have ns : w.heap.size < w1.heap.size := hb.ltK; have n0 : w1.cell? ⟨w.heap.size, 0, none⟩ = some (.int .i64 e) := hb.cellK; have n1 : w1.cell? ⟨w.heap.size, 1, none⟩ = some (.int .i64 f) := hb.cellK; (first | (have nx := hx.trK hb; clear hx) | have nx := hb); clear hb; try clear hs; try clear g0; try clear g1; have hx := nx; clear nx; have hs := ns; clear ns; have g0 := n0; clear n0; have g1 := n1; clear n1))
      go_ret2
      exact pu_mk p _ _ HV.out D.out rfl hp Ext.auK

theorem iPu_no (e f u : Int) (hg : puB e f u = false) (hw0 : -9223372036854775808 ≤ u) (hw1 : u ≤ 9223372036854775807) (w : World) : Calls Try.prog 24 #[fmt e f, .int .i64 u] w fun rv w' => rv = .returned (.tuple #[.int .i64 0, .bool false]) ∧ Ext w w' := by
  have hd : goodB e f = true → ¬ (-2199023255552 ≤ u ∧ u ≤ 2199023255552) := fun h0 => by unfold puB at hg; rw [h0] at hg; simpa using hg
  by_cases hm : -9223372036854775807 ≤ u
  · have hnb : nbB e f (max u (-u)) = false := by
      cases h0 : goodB e f
      · simp [nbB, h0]
      · have := hd h0
        unfold nbB; rw [h0, Bool.true_and, decide_eq_false_iff_not]; omega
    clear hd hg
    go_enter Try.func24, Try.ntmps24
    go_wp2_with (go_at_call 18; refine (iNearestBelow_no e f _ hnb _).mono ?_; rintro rv w1 ⟨rfl, hb⟩; have ns : w.heap.size < w1.heap.size := hb.ltK; have n0 : w1.cell? ⟨w.heap.size, 0, none⟩ = some (.int .i64 e) := hb.cellK; have n1 : w1.cell? ⟨w.heap.size, 1, none⟩ = some (.int .i64 f) := hb.cellK; (first | (have nx := hx.trK hb; clear hx) | have nx := hb); clear hb; try clear hs; try clear g0; try clear g1; have hx := nx; clear nx; have hs := ns; clear ns; have g0 := n0; clear n0; have g1 := n1; clear n1)
    go_ret2
    exact ⟨rfl, Ext.auK⟩
  · have hnb : nbB e f (max u (wrap64 (-u))) = false := by
      have hu : u = -9223372036854775808 := by omega
      subst hu
      cases h0 : goodB e f
      · simp [nbB, h0]
      · unfold nbB; rw [h0, Bool.true_and, decide_eq_false_iff_not]; unfold wrap64; omega
    clear hd hg
    go_enter Try.func24, Try.ntmps24
    go_wp2_with (go_at_call 18; refine (iNearestBelow_no e f _ hnb _).mono ?_; rintro rv w1 ⟨rfl, hb⟩; have ns : w.heap.size < w1.heap.size := hb.ltK; have n0 : w1.cell? ⟨w.heap.size, 0, none⟩ = some (.int .i64 e) := hb.cellK; have n1 : w1.cell? ⟨w.heap.size, 1, none⟩ = some (.int .i64 f) := hb.cellK; (first | (have nx := hx.trK hb; clear hx) | have nx := hb); clear hb; try clear hs; try clear g0; try clear g1; have hx := nx; clear nx; have hs := ns; clear ns; have g0 := n0; clear n0; have g1 := n1; clear n1)
    go_ret2
    exact ⟨rfl, Ext.auK⟩
end Go.Proofs.Ytmddlbphanlfhaa

