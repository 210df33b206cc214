/-
  Contracts of the functions that take a single apart into fields and cut a number to its front places, each under the conditions that its line names.
-/
import Derived.Test.YthnfdaegcjlldaaRows
import Derived.Test.YthnfdaegcjlldaaPlain
import Derived.Test.YthnfdaegcjlldaaFloat
import Derived.Test.YthnfdaegcjlldaaBelow
import Derived.Test.YthnfdaegcjlldaaNear
import Derived.Test.YthnfdaegcjlldaaWalkA
import Derived.Test.YthnfdaegcjlldaaWalkC
import Derived.Test.YthnfdaegcjlldaaWalkD
import Derived.Test.YthnfdaegcjlldaaWalkH
import Derived.Test.YthnfdaegcjlldaaWalkI
import Derived.Test.YthnfdaegcjlldaaLen
import Derived.WalkKit
import Derived.WalkSpells
import Derived.WalkLawsBesides
import Derived.StillTactics
import Derived.Laws.Pointers
import Derived.Deep.RegionHeld3
import Derived.Deep.QuietTactic
import Derived.BigQuiet
import Derived.Outline
import Derived.Lib.Hide
import Derived.RowKit3
import Derived.Carry
import Derived.IntWalk
namespace Go.Proofs.Ythnfdaegcjlldaa
open Go Go.RowKit
set_option linter.unusedSimpArgs false
set_option linter.unusedVariables false

theorem bitsOf (b : Nat) (w : World) : (callFunc 80 #[.float .f32 b]).run Try.prog w = .ok (.value (.int .u32 b)) w :=
  (run_callFunc_extern (e := Extern.MathFloatBits.float32bits) Try.func80 (by kernel_rfl) (by kernel_rfl) (by kernel_rfl) (by kernel_rfl) _ w).trans rfl

theorem fieldsOfFloat_sub (e f m : Int) (hg : goodB e f = true) (hm0 : 0 ≤ m) (hm1 : m < pw f) (w : World) : Calls Try.prog 56 #[fmt e f, .float .f32 (floatOfInt .f32 m)] w fun rv w' => rv = .returned (.agg #[.int .i64 (0), .int .i64 (0), .int .i64 (m)]) ∧ Ext w w' := by
  obtain ⟨h1, h2, h3, h4⟩ := good_iff.1 hg
  obtain ⟨⟨a1, a2⟩, ⟨b1, b2⟩, ⟨c1, c2⟩, hmul⟩ := pw_facts h1 h2 h3 h4
  have Hmul := Lib.hid hmul; clear hmul
  have cv := cut_sub m hm0 (by omega)
  have lt : m ≤ pw f - 1 := by omega
  go_enter Try.func56, Try.ntmps56
  go_wp2_with (go_at_call 75; refine (fractionOnes_any e f hg _).mono ?_; rintro rv w1 ⟨rfl, hb⟩; have ns : w.heap.size + 1 < w1.heap.size := hb.lt (by first | with_reducible assumption | omega | (simp; done) | (simp; omega)); have n0 : w1.cell? ⟨w.heap.size, 0, none⟩ = some (.int .i64 e) := (hb.cells _ _ (by first | with_reducible assumption | omega | (simp; done) | (simp; omega))).trans (by first | with_reducible assumption | (simp; done) | (simp; with_reducible assumption)); have n1 : w1.cell? ⟨w.heap.size, 1, none⟩ = some (.int .i64 f) := (hb.cells _ _ (by first | with_reducible assumption | omega | (simp; done) | (simp; omega))).trans (by first | with_reducible assumption | (simp; done) | (simp; with_reducible assumption)); have n2 : w1.cell? ⟨w.heap.size + 1, 0, none⟩ = some (.int .i64 0) := (hb.cells _ _ (by first | with_reducible assumption | omega | (simp; done) | (simp; omega))).trans (by first | with_reducible assumption | (simp; done) | (simp; with_reducible assumption)); have n3 : w1.cell? ⟨w.heap.size + 1, 1, none⟩ = some (.int .i64 0) := (hb.cells _ _ (by first | with_reducible assumption | omega | (simp; done) | (simp; omega))).trans (by first | with_reducible assumption | (simp; done) | (simp; with_reducible assumption)); have n4 : w1.cell? ⟨w.heap.size + 1, 2, none⟩ = some (.int .i64 0) := (hb.cells _ _ (by first | with_reducible assumption | omega | (simp; done) | (simp; omega))).trans (by first | with_reducible assumption | (simp; done) | (simp; with_reducible assumption)); have nz0 : w1.frozen? ⟨w.heap.size + 1, 0, none⟩ = false := (hb.frz _ _ (by first | with_reducible assumption | omega | (simp; done) | (simp; omega))).trans (by first | with_reducible assumption | (simp [go_sem]; done) | (simp [go_sem]; with_reducible assumption)); have nz1 : w1.frozen? ⟨w.heap.size + 1, 1, none⟩ = false := (hb.frz _ _ (by first | with_reducible assumption | omega | (simp; done) | (simp; omega))).trans (by first | with_reducible assumption | (simp [go_sem]; done) | (simp [go_sem]; with_reducible assumption)); have nz2 : w1.frozen? ⟨w.heap.size + 1, 2, none⟩ = false := (hb.frz _ _ (by first | with_reducible assumption | omega | (simp; done) | (simp; omega))).trans (by first | with_reducible assumption | (simp [go_sem]; done) | (simp [go_sem]; with_reducible assumption)); (first | (have nx := Ext.trans hx hb; clear hx) | (have nx := Ext.trans (hx.alloc _) hb; clear hx) | (have nx := Ext.trans hx.drew hb; clear hx) | have nx := hb); clear hb; try clear hs; try clear g0; try clear g1; try clear g2; try clear g3; try clear g4; try clear z0; try clear z1; try clear z2; have hx := nx; clear nx; have hs := ns; clear ns; have g0 := n0; clear n0; have g1 := n1; clear n1; have g2 := n2; clear n2; have g3 := n3; clear n3; have g4 := n4; clear n4; have z0 := nz0; clear nz0; have z1 := nz1; clear nz1; have z2 := nz2; clear nz2)
  refine bodyPost_ret (v := .agg #[.int .i64 (0), .int .i64 (0), .int .i64 (m)]) (by simp [results, Try.results56, go_sem, *]) rfl ⟨rfl, (by repeat (first | exact Ext.refl _ | with_reducible assumption | apply Ext.alloc | apply Ext.drew | apply Ext.drewN | (refine Ext.setRow ?_ (by simp) _) | (refine Ext.setCell ?_ (by simp) _) | (refine Ext.trans ?_ (by with_reducible assumption))))⟩

theorem bits_facts (f x r B : Int) (h3 : 1 ≤ f) (h4 : f ≤ 10) (hx0 : 1 ≤ x) (hx1 : x < 31) (hr0 : 0 ≤ r) (hr1 : r < pw f) (hB : B = (x - 1 + f + 127) * 8388608 + r * pw (23 - f)) :
    (0 ≤ B ∧ B ≤ 2147483647) ∧ B / 8388608 = x - 1 + f + 127 ∧ B / pw (23 - f) = (x - 1 + f + 127) * pw f + r ∧ bits .and .i64 ((x - 1 + f + 127) * pw f + r) (pw f - 1) = r := by
  obtain ⟨⟨q1, q2⟩, _, _⟩ := fbits_eq f x r h3 h4 hx0 hx1 hr0 hr1
  have c2 : pw f ≤ 1024 := pw_le 10 1024 rfl h4
  have p23 : pw (23 - f) * pw f = 8388608 := by rw [← pw_add _ _ (by omega) (by omega), show 23 - f + f = 23 by omega]; rfl
  have p0 := pw_pos (23 - f)
  have e : B = ((x - 1 + f + 127) * pw f + r) * pw (23 - f) := by
    rw [hB, Int.add_mul _ r, Int.mul_assoc, Int.mul_comm (pw f), p23]
  have m0 : 0 ≤ (x - 1 + f + 127) * pw f := Int.mul_nonneg (by omega) (by omega)
  have m1 : (x - 1 + f + 127) * pw f ≤ 200 * 1024 := Int.mul_le_mul (by omega) c2 (by omega) (by omega)
  refine ⟨⟨by omega, by omega⟩, ?_, ?_, ?_⟩
  · rw [hB, Int.add_comm, Int.add_mul_ediv_right _ _ (by decide), Int.ediv_eq_zero_of_lt q1 q2]; omega
  · rw [e]; exact Int.mul_ediv_cancel _ (by omega)
  · rw [and_pw _ f (by omega) (by omega) (by omega), Int.add_comm, Int.add_mul_emod_self_right]
    exact Int.emod_eq_of_lt hr0 hr1

set_option maxHeartbeats 1600000 in
theorem fieldsOfFloat_bits (e f x r : Int) (b : Nat) (hg : goodB e f = true) (hx0 : 1 ≤ x) (hx1 : x < 31) (hr0 : 0 ≤ r) (hr1 : r < pw f) (cv : ∀ w : World, (convert 43 3 (.float .f32 b)).run Try.prog w = .ok (.int .i64 ((r + pw f) * pw (x - 1))) w)
    (hB : (b : Int) = (x - 1 + f + 127) * 8388608 + r * pw (23 - f)) (w : World) : Calls Try.prog 56 #[fmt e f, .float .f32 b] w fun rv w' => rv = .returned (.agg #[.int .i64 (0), .int .i64 (x), .int .i64 (r)]) ∧ Ext w w' := by
  obtain ⟨h1, h2, h3, h4⟩ := good_iff.1 hg
  obtain ⟨⟨a1, a2⟩, ⟨b1, b2⟩, ⟨c1, c2⟩, hmul⟩ := pw_facts h1 h2 h3 h4
  have Hmul := Lib.hid hmul; clear hmul
  obtain ⟨⟨B0, B1⟩, e1, e2, e3⟩ := bits_facts f x r b h3 h4 hx0 hx1 hr0 hr1 hB
  have p0 := pw_pos (x - 1)
  have p1 : pw f * 1 ≤ (r + pw f) * pw (x - 1) := Int.mul_le_mul (by omega) p0 (by omega) (by omega)
  have lt : pw f - 1 < (r + pw f) * pw (x - 1) := by omega
  have k1 : (2 : Int) ^ (23 - f).toNat = pw (23 - f) := rfl
  have v1 : IntKind.i64.wrap (x - 1 + f) = x - 1 + f := IntWalk.i64_in _ (by omega)
  have v2 : IntKind.i64.wrap (x - 1) = x - 1 := IntWalk.i64_in _ (by omega)
  have v3 : IntKind.i64.wrap x = x := IntWalk.i64_in _ (by omega)
  have v4 : IntKind.i64.wrap (23 - f) = 23 - f := IntWalk.i64_in _ (by omega)
  have v5 : 0 ≤ 23 - f := by omega
  have v6 : f ≤ 23 := by omega
  clear hB p1
  go_enter Try.func56, Try.ntmps56
  go_wp2_with (first | (go_at_call 75; refine (fractionOnes_any e f hg _).mono ?_; rintro rv w1 ⟨rfl, hb⟩; have ns : w.heap.size + 1 < w1.heap.size := hb.lt (by first | with_reducible assumption | omega | (simp; done) | (simp; omega)); have n0 : w1.cell? ⟨w.heap.size, 0, none⟩ = some (.int .i64 e) := (hb.cells _ _ (by first | with_reducible assumption | omega | (simp; done) | (simp; omega))).trans (by first | with_reducible assumption | (simp; done) | (simp; with_reducible assumption)); have n1 : w1.cell? ⟨w.heap.size, 1, none⟩ = some (.int .i64 f) := (hb.cells _ _ (by first | with_reducible assumption | omega | (simp; done) | (simp; omega))).trans (by first | with_reducible assumption | (simp; done) | (simp; with_reducible assumption)); have n2 : w1.cell? ⟨w.heap.size + 1, 0, none⟩ = some (.int .i64 0) := (hb.cells _ _ (by first | with_reducible assumption | omega | (simp; done) | (simp; omega))).trans (by first | with_reducible assumption | (simp; done) | (simp; with_reducible assumption)); have n3 : w1.cell? ⟨w.heap.size + 1, 1, none⟩ = some (.int .i64 0) := (hb.cells _ _ (by first | with_reducible assumption | omega | (simp; done) | (simp; omega))).trans (by first | with_reducible assumption | (simp; done) | (simp; with_reducible assumption)); have n4 : w1.cell? ⟨w.heap.size + 1, 2, none⟩ = some (.int .i64 0) := (hb.cells _ _ (by first | with_reducible assumption | omega | (simp; done) | (simp; omega))).trans (by first | with_reducible assumption | (simp; done) | (simp; with_reducible assumption)); have nz0 : w1.frozen? ⟨w.heap.size + 1, 0, none⟩ = false := (hb.frz _ _ (by first | with_reducible assumption | omega | (simp; done) | (simp; omega))).trans (by first | with_reducible assumption | (simp [go_sem]; done) | (simp [go_sem]; with_reducible assumption)); have nz1 : w1.frozen? ⟨w.heap.size + 1, 1, none⟩ = false := (hb.frz _ _ (by first | with_reducible assumption | omega | (simp; done) | (simp; omega))).trans (by first | with_reducible assumption | (simp [go_sem]; done) | (simp [go_sem]; with_reducible assumption)); have nz2 : w1.frozen? ⟨w.heap.size + 1, 2, none⟩ = false := (hb.frz _ _ (by first | with_reducible assumption | omega | (simp; done) | (simp; omega))).trans (by first | with_reducible assumption | (simp [go_sem]; done) | (simp [go_sem]; with_reducible assumption)); (first | (have nx := Ext.trans hx hb; clear hx) | (have nx := Ext.trans (hx.alloc _) hb; clear hx) | (have nx := Ext.trans hx.drew hb; clear hx) | have nx := hb); clear hb; try clear hs; try clear g0; try clear g1; try clear g2; try clear g3; try clear g4; try clear z0; try clear z1; try clear z2; have hx := nx; clear nx; have hs := ns; clear ns; have g0 := n0; clear n0; have g1 := n1; clear n1; have g2 := n2; clear n2; have g3 := n3; clear n3; have g4 := n4; clear n4; have z0 := nz0; clear nz0; have z1 := nz1; clear nz1; have z2 := nz2; clear nz2) | (simp only [bitsOf]))
  go_region_held3 (fun w' => w'.cell? ⟨w.heap.size, 0, none⟩ = some (.int .i64 e) ∧ w'.cell? ⟨w.heap.size, 1, none⟩ = some (.int .i64 f) ∧ w.heap.size + 1 < w'.heap.size) ((refine ⟨?_, ?_, ?_⟩ <;> first | with_reducible assumption | ((rw [cell_setRow_far _ _ _ _ _ (by omega)]); with_reducible assumption) | ((rw [setRow_size]); with_reducible assumption) | ((repeat rw [World.cell?_setCell_far _ _ _ _ (by simp)]); with_reducible assumption) | (simp; done) | (simp [World.setCell]; first | done | omega) | (simp [go_sem, World.cell?_alloc_past, World.cell?_setCell_far, *]; done))) ((first | (go_at_call 75; refine (fractionOnes_any e f hg _).mono ?_; rintro rv w1 ⟨rfl, hb⟩; have ns : w.heap.size + 1 < w1.heap.size := hb.lt (by first | with_reducible assumption | omega | (simp; done) | (simp; omega)); have n0 : w1.cell? ⟨w.heap.size, 0, none⟩ = some (.int .i64 e) := (hb.cells _ _ (by first | with_reducible assumption | omega | (simp; done) | (simp; omega))).trans (by first | with_reducible assumption | (simp; done) | (simp; with_reducible assumption)); have n1 : w1.cell? ⟨w.heap.size, 1, none⟩ = some (.int .i64 f) := (hb.cells _ _ (by first | with_reducible assumption | omega | (simp; done) | (simp; omega))).trans (by first | with_reducible assumption | (simp; done) | (simp; with_reducible assumption)); have n2 : w1.cell? ⟨w.heap.size + 1, 0, none⟩ = some (.int .i64 0) := (hb.cells _ _ (by first | with_reducible assumption | omega | (simp; done) | (simp; omega))).trans (by first | with_reducible assumption | (simp; done) | (simp; with_reducible assumption)); have n3 : w1.cell? ⟨w.heap.size + 1, 1, none⟩ = some (.int .i64 0) := (hb.cells _ _ (by first | with_reducible assumption | omega | (simp; done) | (simp; omega))).trans (by first | with_reducible assumption | (simp; done) | (simp; with_reducible assumption)); have n4 : w1.cell? ⟨w.heap.size + 1, 2, none⟩ = some (.int .i64 0) := (hb.cells _ _ (by first | with_reducible assumption | omega | (simp; done) | (simp; omega))).trans (by first | with_reducible assumption | (simp; done) | (simp; with_reducible assumption)); have nz0 : w1.frozen? ⟨w.heap.size + 1, 0, none⟩ = false := (hb.frz _ _ (by first | with_reducible assumption | omega | (simp; done) | (simp; omega))).trans (by first | with_reducible assumption | (simp [go_sem]; done) | (simp [go_sem]; with_reducible assumption)); have nz1 : w1.frozen? ⟨w.heap.size + 1, 1, none⟩ = false := (hb.frz _ _ (by first | with_reducible assumption | omega | (simp; done) | (simp; omega))).trans (by first | with_reducible assumption | (simp [go_sem]; done) | (simp [go_sem]; with_reducible assumption)); have nz2 : w1.frozen? ⟨w.heap.size + 1, 2, none⟩ = false := (hb.frz _ _ (by first | with_reducible assumption | omega | (simp; done) | (simp; omega))).trans (by first | with_reducible assumption | (simp [go_sem]; done) | (simp [go_sem]; with_reducible assumption)); (first | (have nx := Ext.trans hx hb; clear hx) | (have nx := Ext.trans (hx.alloc _) hb; clear hx) | (have nx := Ext.trans hx.drew hb; clear hx) | have nx := hb); clear hb; try clear hs; try clear g0; try clear g1; try clear g2; try clear g3; try clear g4; try clear z0; try clear z1; try clear z2; have hx := nx; clear nx; have hs := ns; clear ns; have g0 := n0; clear n0; have g1 := n1; clear n1; have g2 := n2; clear n2; have g3 := n3; clear n3; have g4 := n4; clear n4; have z0 := nz0; clear nz0; have z1 := nz1; clear nz1; have z2 := nz2; clear nz2)))
  go_wp2
  refine bodyPost_ret (v := .agg #[.int .i64 (0), .int .i64 (x), .int .i64 (r)]) (by simp [results, Try.results56, go_sem, *]) rfl ⟨rfl, (by repeat (first | exact Ext.refl _ | with_reducible assumption | apply Ext.alloc | apply Ext.drew | apply Ext.drewN | (refine Ext.setRow ?_ (by simp) _) | (refine Ext.setCell ?_ (by simp) _) | (refine Ext.trans ?_ (by with_reducible assumption))))⟩

theorem fieldsOfFloat_norm (e f x r : Int) (hg : goodB e f = true) (hx0 : 1 ≤ x) (hx1 : x < 31) (hr0 : 0 ≤ r) (hr1 : r < pw f) (w : World) : Calls Try.prog 56 #[fmt e f, .float .f32 (fbitsN f.toNat x.toNat r.toNat)] w fun rv w' => rv = .returned (.agg #[.int .i64 (0), .int .i64 (x), .int .i64 (r)]) ∧ Ext w w' := by
  obtain ⟨h1, h2, h3, h4⟩ := good_iff.1 hg
  obtain ⟨⟨q1, q2⟩, _, q4⟩ := fbits_eq f x r h3 h4 hx0 hx1 hr0 hr1
  exact fieldsOfFloat_bits e f x r _ hg hx0 hx1 hr0 hr1 (cut_norm f x r h3 h4 hx0 hx1 hr0 hr1) (by rw [← q4]; omega) w

theorem frontPlaces_any (f m : Int) (hf : 1 ≤ f) (hf2 : f ≤ 10) (hm0 : 0 ≤ m) (hm1 : m < 9223372036854775808) (w : World) : Calls Try.prog 54 #[.int .i64 m, .int .i64 (1 + f)] w fun rv w' => rv = .returned (.int .i64 (m / pw (bhV f m) * pw (bhV f m))) ∧ w = w' := by
  have L0 : (0 : Int) ≤ (Lib.bitLen m.toNat : Int) := Int.natCast_nonneg _
  have L1 : (Lib.bitLen m.toNat : Int) ≤ 63 := by
    by_cases h0 : m = 0
    · subst h0; show (Lib.bitLen 0 : Int) ≤ 63; rw [bl_zero]; decide
    · obtain ⟨b1, b2, b3⟩ := bl_bounds m.toNat (by omega) (by omega)
      have c1 : Lib.bitLen m.toNat - 1 < 63 := by
        apply (Nat.pow_lt_pow_iff_right (show 1 < 2 by decide)).1
        exact Nat.lt_of_le_of_lt b2 (by omega)
      omega
  have kb : max ((Lib.bitLen m.toNat : Int) - (1 + f)) 0 = bhV f m := rfl
  have B0 : 0 ≤ bhV f m := by unfold bhV; omega
  have B1 : bhV f m ≤ 61 := by unfold bhV; omega
  have p0 := pw_pos (bhV f m)
  have k1 := pw_of (bhV f m)
  have hd := Int.mul_ediv_add_emod m (pw (bhV f m))
  have hr0 := Int.emod_nonneg m (show pw (bhV f m) ≠ 0 by omega)
  rw [Int.mul_comm] at hd
  have d0 : 0 ≤ m / pw (bhV f m) * pw (bhV f m) := Int.mul_nonneg (Int.ediv_nonneg hm0 (by omega)) (by omega)
  have d1 : m / pw (bhV f m) * pw (bhV f m) ≤ m := by omega
  clear hd hr0
  go_enter Try.func54, Try.ntmps54
  go_wp2_with (go_at_call 79; refine (Try.bits_Len _ _ (by omega) (by omega)).mono ?_; rintro rv w1 ⟨rfl, rfl⟩)
  go_ret
  exact ⟨rfl, rfl⟩

end Go.Proofs.Ythnfdaegcjlldaa
