/-
  Contracts of the functions that the laws reach, and the plain facts that they rest on, each under the conditions that its line names; part 18.
-/
import Derived.Test.YtcpamgmaijjhoaaKst1
import Derived.Test.YtcpamgmaijjhoaaKst2
import Derived.Test.YtcpamgmaijjhoaaKst3
import Derived.Test.YtcpamgmaijjhoaaKst4
import Derived.Test.YtcpamgmaijjhoaaKst5
import Derived.Test.YtcpamgmaijjhoaaKst6
import Derived.Test.YtcpamgmaijjhoaaKst7
import Derived.Test.YtcpamgmaijjhoaaKst8
import Derived.Test.YtcpamgmaijjhoaaKst9
import Derived.Test.YtcpamgmaijjhoaaKst10
import Derived.Test.YtcpamgmaijjhoaaKst11
import Derived.Test.YtcpamgmaijjhoaaKst12
import Derived.Test.YtcpamgmaijjhoaaKst14
import Derived.Test.YtcpamgmaijjhoaaKst17
import Derived.Test.YtcpamgmaijjhoaaRows
import Derived.WalkKit
import Derived.LoopTactic
import Derived.Laws.Bits64b
import Derived.WalkSpells
import Derived.WalkLawsBesides
import Derived.StillTactics
import Derived.Laws.Pointers
import Derived.Deep.RegionHeld3
import Derived.Deep.QuietTactic
import Derived.BigQuiet
import Derived.Outline
import Derived.Lib.Hide
import Derived.RowKit3
import Derived.Carry
import Derived.IntWalk
namespace Go.Proofs.Ytcpamgmaijjhoaa
open Go Go.RowKit
set_option linter.unusedSimpArgs false
set_option linter.unusedVariables false

theorem isNaN32_any (b : Nat) (h : b < 2139095040) (w : World) : Calls Try.prog 210 #[.float .f32 b] w fun rv w' => rv = .returned (.bool false) ∧ w = w' := by
  have o : FloatKind.f32.format.order b b = some .eq := by
    rw [order_pos (by rw [inf32]; omega) (by rw [inf32]; omega), cmp_eq rfl]
  go_enter Try.func210, Try.ntmps210
  go_wp2
  go_ret
  exact ⟨rfl, rfl⟩

theorem compare32_any (a b : Nat) (ha : a < 2139095040) (hb : b < 2139095040) (w : World) : Calls Try.prog 202 #[.float .f32 a, .float .f32 b] w fun rv w' => rv = .returned (.int .i64 (sgV ((a : Int) - b))) ∧ w = w' := by
  rcases Nat.lt_trichotomy a b with h | h | h
  · have o : FloatKind.f32.format.order a b = some .lt := by
      rw [order_pos (by rw [inf32]; omega) (by rw [inf32]; omega), cmp_lt h]
    have hk : sgV ((a : Int) - b) = -1 := sg_neg (by omega)
    have Hk := Lib.hid hk; clear hk
    go_enter Try.func202, Try.ntmps202
    go_wp2_with (go_at_call 210; refine (isNaN32_any _ (by omega) _).mono ?_; rintro rv w1 ⟨rfl, rfl⟩)
    go_ret
    exact ⟨ret_int Hk.out.symm, rfl⟩
  · subst h
    have o : FloatKind.f32.format.order a a = some .eq := by
      rw [order_pos (by rw [inf32]; omega) (by rw [inf32]; omega), cmp_eq rfl]
    have hk : sgV ((a : Int) - a) = 0 := sg_zero (by omega)
    have Hk := Lib.hid hk; clear hk
    go_enter Try.func202, Try.ntmps202
    go_wp2_with (go_at_call 210; refine (isNaN32_any _ (by omega) _).mono ?_; rintro rv w1 ⟨rfl, rfl⟩)
    go_ret
    exact ⟨ret_int Hk.out.symm, rfl⟩
  · have o : FloatKind.f32.format.order a b = some .gt := by
      rw [order_pos (by rw [inf32]; omega) (by rw [inf32]; omega), cmp_gt h]
    have hk : sgV ((a : Int) - b) = 1 := sg_pos (by omega)
    have Hk := Lib.hid hk; clear hk
    go_enter Try.func202, Try.ntmps202
    go_wp2_with (go_at_call 210; refine (isNaN32_any _ (by omega) _).mono ?_; rintro rv w1 ⟨rfl, rfl⟩)
    go_ret
    exact ⟨ret_int Hk.out.symm, rfl⟩

theorem compare_fw (A B : Nat) (ha : Ok Ieee.single A) (hb : Ok Ieee.single B) (w : World) : Calls Try.prog 202 #[.float .f32 (fw Ieee.single A), .float .f32 (fw Ieee.single B)] w fun rv w' => rv = .returned (.int .i64 (sgV ((A : Int) - B))) ∧ w = w' := by
  have h1 := fw_fin ha
  have h2 := fw_fin hb
  have hi : Ieee.single.infRung = 2139095040 := by decide
  rw [hi] at h1 h2
  have := compare32_any _ _ h1 h2 w
  have e : sgV (((fw Ieee.single A : Nat) : Int) - (fw Ieee.single B : Nat)) = sgV ((A : Int) - B) := by
    have l1 := fw_lt ha hb
    have l2 := fw_lt hb ha
    rcases Nat.lt_trichotomy A B with h | h | h
    · have := l1.2 h
      rw [sg_neg (by omega), sg_neg (by omega)]
    · subst h
      rw [sg_zero (by omega), sg_zero (by omega)]
    · have := l2.2 h
      rw [sg_pos (by omega), sg_pos (by omega)]
  rwa [e] at this

theorem bits32_run (b : Nat) (w : World) : (callFunc 187 #[.float .f32 b]).run Try.prog w = .ok (.value (.int .u32 b)) w :=
  (run_callFunc_extern (e := Extern.MathFloatBits.float32bits) Try.func187 (by kernel_rfl) (by kernel_rfl) (by kernel_rfl) (by kernel_rfl) _ w).trans rfl

theorem cut_fw {V : Nat} (ok : Ok Ieee.single V) (hV : V < 2 ^ 190) (w : World) : (convert 111 3 (.float .f32 (fw Ieee.single V))).run Try.prog w = .ok (.int .i64 ((V / 2 ^ 149 : Nat) : Int)) w := by
  refine run_convert_float_int w 111 3 .f32 .i64 _ _ (by kernel_rfl) Try.underlying3 ?_
  unfold floatToIntVal
  have h := toInt_fw (f := Ieee.single) 149 (by decide) ok
  have h2 : (FloatKind.f32.decode (fw Ieee.single V)).toInt .zero = some ((V / 2 ^ 149 : Nat) : Int) := h
  rw [h2]
  have h3 : V / 2 ^ 149 < 2 ^ 41 := Nat.div_lt_of_lt_mul (by rw [← Nat.pow_add]; exact hV)
  generalize V / 2 ^ 149 = u at *
  have a1 : IntKind.i64.min ≤ (u : Int) := by have : IntKind.i64.min ≤ 0 := by decide
                                              omega
  have a2 : (u : Int) ≤ IntKind.i64.max := by have : (2199023255552 : Int) ≤ IntKind.i64.max := by decide
                                              omega
  simp only [a1, a2, and_self, if_true]

/-- The fields of the pattern below. -/
def FFout (f : Int) (V : Nat) (w : World) (rv : Ending) (w' : World) : Prop := ∃ x r : Int, rv = .returned (.agg #[.int .i64 (0), .int .i64 (x), .int .i64 (r)]) ∧ 0 ≤ x ∧ (0 ≤ r ∧ r < pw f) ∧ mgV f (x * pw f + r) * pw 149 ≤ V ∧ (V : Int) < mgV f (x * pw f + r + 1) * pw 149 ∧ Ext w w'

theorem ff_low (e f : Int) (V : Nat) (hg : goodB e f = true) (ok : Ok Ieee.single V) (hV : V < 2 ^ 190) (hu : ((V / 2 ^ 149 : Nat) : Int) < pw f) (w : World) : Calls Try.prog 133 #[fmt e f, .float .f32 (fw Ieee.single V)] w fun rv w' => rv = .returned (.agg #[.int .i64 (0), .int .i64 (0), .int .i64 (((V / 2 ^ 149 : Nat) : Int))]) ∧ Ext w w' := by
  obtain ⟨h1, h2, h3, h4⟩ := good_iff.1 hg
  obtain ⟨⟨a1, a2⟩, ⟨b1, b2⟩, ⟨c1, c2⟩, hmul⟩ := pw_facts h1 h2 h3 h4
  have Hmul := Lib.hid hmul; clear hmul
  have cv := cut_fw ok hV
  generalize V / 2 ^ 149 = u at *
  generalize fw Ieee.single V = b at *
  have lt : (u : Int) ≤ pw f - 1 := by omega
  go_enter Try.func133, Try.ntmps133
  go_wp2_with (go_at_call 136; refine (fractionOnes_any e f hg _).mono ?_; rintro rv w1 ⟨rfl, hb⟩; have ns : w.heap.size + 1 < w1.heap.size := hb.lt (by first | with_reducible assumption | omega | (simp; done) | (simp; omega)); have n0 : w1.cell? ⟨w.heap.size, 0, none⟩ = some (.int .i64 e) := (hb.cells _ _ (by first | with_reducible assumption | omega | (simp; done) | (simp; omega))).trans (by first | with_reducible assumption | (simp; done) | (simp; with_reducible assumption) | (rw [cell_alloc_before _ _ _ _ (by omega)]; with_reducible assumption) | (simp [go_sem, *]; done)); have n1 : w1.cell? ⟨w.heap.size, 1, none⟩ = some (.int .i64 f) := (hb.cells _ _ (by first | with_reducible assumption | omega | (simp; done) | (simp; omega))).trans (by first | with_reducible assumption | (simp; done) | (simp; with_reducible assumption) | (rw [cell_alloc_before _ _ _ _ (by omega)]; with_reducible assumption) | (simp [go_sem, *]; done)); have n2 : w1.cell? ⟨w.heap.size + 1, 0, none⟩ = some (.int .i64 0) := (hb.cells _ _ (by first | with_reducible assumption | omega | (simp; done) | (simp; omega))).trans (by first | with_reducible assumption | (simp; done) | (simp; with_reducible assumption) | (rw [cell_alloc_before _ _ _ _ (by omega)]; with_reducible assumption) | (simp [go_sem, *]; done)); have n3 : w1.cell? ⟨w.heap.size + 1, 1, none⟩ = some (.int .i64 0) := (hb.cells _ _ (by first | with_reducible assumption | omega | (simp; done) | (simp; omega))).trans (by first | with_reducible assumption | (simp; done) | (simp; with_reducible assumption) | (rw [cell_alloc_before _ _ _ _ (by omega)]; with_reducible assumption) | (simp [go_sem, *]; done)); have n4 : w1.cell? ⟨w.heap.size + 1, 2, none⟩ = some (.int .i64 0) := (hb.cells _ _ (by first | with_reducible assumption | omega | (simp; done) | (simp; omega))).trans (by first | with_reducible assumption | (simp; done) | (simp; with_reducible assumption) | (rw [cell_alloc_before _ _ _ _ (by omega)]; with_reducible assumption) | (simp [go_sem, *]; done)); have nz0 : w1.frozen? ⟨w.heap.size + 1, 0, none⟩ = false := (hb.frz _ _ (by first | with_reducible assumption | omega | (simp; done) | (simp; omega))).trans (by first | with_reducible assumption | (simp [go_sem]; done) | (simp [go_sem]; with_reducible assumption)); have nz1 : w1.frozen? ⟨w.heap.size + 1, 1, none⟩ = false := (hb.frz _ _ (by first | with_reducible assumption | omega | (simp; done) | (simp; omega))).trans (by first | with_reducible assumption | (simp [go_sem]; done) | (simp [go_sem]; with_reducible assumption)); have nz2 : w1.frozen? ⟨w.heap.size + 1, 2, none⟩ = false := (hb.frz _ _ (by first | with_reducible assumption | omega | (simp; done) | (simp; omega))).trans (by first | with_reducible assumption | (simp [go_sem]; done) | (simp [go_sem]; with_reducible assumption)); (first | (have nx := Ext.trans hx hb; clear hx) | (have nx := Ext.trans (hx.alloc _) hb; clear hx) | (have nx := Ext.trans hx.drew hb; clear hx) | have nx := hb); clear hb; try clear hs; try clear g0; try clear g1; try clear g2; try clear g3; try clear g4; try clear z0; try clear z1; try clear z2; have hx := nx; clear nx; have hs := ns; clear ns; have g0 := n0; clear n0; have g1 := n1; clear n1; have g2 := n2; clear n2; have g3 := n3; clear n3; have g4 := n4; clear n4; have z0 := nz0; clear nz0; have z1 := nz1; clear nz1; have z2 := nz2; clear nz2)
  refine bodyPost_ret (v := .agg #[.int .i64 (0), .int .i64 (0), .int .i64 (u)]) (by simp [results, Try.results133, go_sem, *]) rfl ⟨rfl, (by repeat (first | exact Ext.refl _ | with_reducible assumption | apply Ext.alloc | apply Ext.drew | apply Ext.drewN | (refine Ext.setRow ?_ (by first | (simp; done) | (simp; omega) | omega) _) | (refine Ext.setCell ?_ (by first | (simp; done) | (simp; omega) | omega) _) | (refine Ext.trans ?_ (by with_reducible assumption))))⟩

set_option maxHeartbeats 1600000 in
theorem ff_high (e f : Int) (V E M : Nat) (hg : goodB e f = true) (ok : Ok Ieee.single V) (hV : V < 2 ^ 190) (hu : pw f ≤ ((V / 2 ^ 149 : Nat) : Int)) (hb : fw Ieee.single V = E * 8388608 + M) (hM : M < 8388608) (hE : E ≤ 254) (hx : 1 ≤ (E : Int) - 126 - f) (w : World) :
    Calls Try.prog 133 #[fmt e f, .float .f32 (fw Ieee.single V)] w fun rv w' => rv = .returned (.agg #[.int .i64 (0), .int .i64 ((E : Int) - 126 - f), .int .i64 ((M : Int) / pw (23 - f))]) ∧ Ext w w' := by
  obtain ⟨h1, h2, h3, h4⟩ := good_iff.1 hg
  obtain ⟨⟨a1, a2⟩, ⟨b1, b2⟩, ⟨c1, c2⟩, hmul⟩ := pw_facts h1 h2 h3 h4
  have Hmul := Lib.hid hmul; clear hmul
  have cv := cut_fw ok hV
  have pf := parts_frac (f := f) (E := E) h3 h4 hM
  have p0 := pw_pos (23 - f)
  have p1 := pw_le (a := 23 - f) 22 4194304 rfl (by omega)
  generalize V / 2 ^ 149 = u at *
  rw [hb] at cv ⊢
  have b1 : ((E * 8388608 + M : Nat) : Int) / 8388608 = (E : Int) := by omega
  have b2 : ((E * 8388608 + M : Nat) : Int) ≤ 2139095039 := by omega
  have hy0 : 0 ≤ ((E * 8388608 + M : Nat) : Int) / pw (23 - f) := Int.ediv_nonneg (by omega) (by omega)
  have hy1 : ((E * 8388608 + M : Nat) : Int) / pw (23 - f) ≤ ((E * 8388608 + M : Nat) : Int) := Int.ediv_le_self _ (by omega)
  have an := and_pw (((E * 8388608 + M : Nat) : Int) / pw (23 - f)) f hy0 (by omega) (by omega)
  rw [pf] at an
  clear pf hb
  generalize hbb : E * 8388608 + M = b at *
  have lt : ¬ (u : Int) ≤ pw f - 1 := by omega
  have k1 := pw_of (23 - f)
  have v1 : IntKind.i64.wrap ((E : Int) - 127 - f + 1) = (E : Int) - 126 - f := by rw [IntWalk.i64_in _ (by omega)]; omega
  have v2 : IntKind.i64.wrap ((E : Int) - 127 - f) = (E : Int) - 127 - f := IntWalk.i64_in _ (by omega)
  have v3 : IntKind.i64.wrap ((E : Int) - 127) = (E : Int) - 127 := IntWalk.i64_in _ (by omega)
  have v4 : IntKind.i64.wrap (23 - f) = 23 - f := IntWalk.i64_in _ (by omega)
  have v5 : 0 ≤ 23 - f := by omega
  have v6 : f ≤ 23 := by omega
  have v7 : IntKind.i64.wrap (b : Int) = (b : Int) := IntWalk.i64_in _ (by omega)
  have b0 : 0 ≤ (b : Int) := by omega
  have HBB := Lib.hid hbb; clear hbb
  go_enter Try.func133, Try.ntmps133
  go_wp2_with (first | (go_at_call 136; refine (fractionOnes_any e f hg _).mono ?_; rintro rv w1 ⟨rfl, hb⟩; have ns : w.heap.size + 1 < w1.heap.size := hb.lt (by first | with_reducible assumption | omega | (simp; done) | (simp; omega)); have n0 : w1.cell? ⟨w.heap.size, 0, none⟩ = some (.int .i64 e) := (hb.cells _ _ (by first | with_reducible assumption | omega | (simp; done) | (simp; omega))).trans (by first | with_reducible assumption | (simp; done) | (simp; with_reducible assumption) | (rw [cell_alloc_before _ _ _ _ (by omega)]; with_reducible assumption) | (simp [go_sem, *]; done)); have n1 : w1.cell? ⟨w.heap.size, 1, none⟩ = some (.int .i64 f) := (hb.cells _ _ (by first | with_reducible assumption | omega | (simp; done) | (simp; omega))).trans (by first | with_reducible assumption | (simp; done) | (simp; with_reducible assumption) | (rw [cell_alloc_before _ _ _ _ (by omega)]; with_reducible assumption) | (simp [go_sem, *]; done)); have n2 : w1.cell? ⟨w.heap.size + 1, 0, none⟩ = some (.int .i64 0) := (hb.cells _ _ (by first | with_reducible assumption | omega | (simp; done) | (simp; omega))).trans (by first | with_reducible assumption | (simp; done) | (simp; with_reducible assumption) | (rw [cell_alloc_before _ _ _ _ (by omega)]; with_reducible assumption) | (simp [go_sem, *]; done)); have n3 : w1.cell? ⟨w.heap.size + 1, 1, none⟩ = some (.int .i64 0) := (hb.cells _ _ (by first | with_reducible assumption | omega | (simp; done) | (simp; omega))).trans (by first | with_reducible assumption | (simp; done) | (simp; with_reducible assumption) | (rw [cell_alloc_before _ _ _ _ (by omega)]; with_reducible assumption) | (simp [go_sem, *]; done)); have n4 : w1.cell? ⟨w.heap.size + 1, 2, none⟩ = some (.int .i64 0) := (hb.cells _ _ (by first | with_reducible assumption | omega | (simp; done) | (simp; omega))).trans (by first | with_reducible assumption | (simp; done) | (simp; with_reducible assumption) | (rw [cell_alloc_before _ _ _ _ (by omega)]; with_reducible assumption) | (simp [go_sem, *]; done)); have nz0 : w1.frozen? ⟨w.heap.size + 1, 0, none⟩ = false := (hb.frz _ _ (by first | with_reducible assumption | omega | (simp; done) | (simp; omega))).trans (by first | with_reducible assumption | (simp [go_sem]; done) | (simp [go_sem]; with_reducible assumption)); have nz1 : w1.frozen? ⟨w.heap.size + 1, 1, none⟩ = false := (hb.frz _ _ (by first | with_reducible assumption | omega | (simp; done) | (simp; omega))).trans (by first | with_reducible assumption | (simp [go_sem]; done) | (simp [go_sem]; with_reducible assumption)); have nz2 : w1.frozen? ⟨w.heap.size + 1, 2, none⟩ = false := (hb.frz _ _ (by first | with_reducible assumption | omega | (simp; done) | (simp; omega))).trans (by first | with_reducible assumption | (simp [go_sem]; done) | (simp [go_sem]; with_reducible assumption)); (first | (have nx := Ext.trans hx hb; clear hx) | (have nx := Ext.trans (hx.alloc _) hb; clear hx) | (have nx := Ext.trans hx.drew hb; clear hx) | have nx := hb); clear hb; try clear hs; try clear g0; try clear g1; try clear g2; try clear g3; try clear g4; try clear z0; try clear z1; try clear z2; have hx := nx; clear nx; have hs := ns; clear ns; have g0 := n0; clear n0; have g1 := n1; clear n1; have g2 := n2; clear n2; have g3 := n3; clear n3; have g4 := n4; clear n4; have z0 := nz0; clear nz0; have z1 := nz1; clear nz1; have z2 := nz2; clear nz2) | (simp only [bits32_run]))
  go_region_held3 (fun w' => w'.cell? ⟨w.heap.size, 0, none⟩ = some (.int .i64 e) ∧ w'.cell? ⟨w.heap.size, 1, none⟩ = some (.int .i64 f) ∧ w.heap.size + 1 < w'.heap.size) ((refine ⟨?_, ?_, ?_⟩ <;> first | with_reducible assumption | ((rw [cell_setRow_far _ _ _ _ _ (by omega)]); with_reducible assumption) | ((rw [setRow_size]); with_reducible assumption) | ((repeat rw [World.cell?_setCell_far _ _ _ _ (by simp)]); with_reducible assumption) | (simp; done) | (simp [World.setCell]; first | done | omega) | (simp [go_sem, World.cell?_alloc_past, World.cell?_setCell_far, *]; done))) ((first | (go_at_call 136; refine (fractionOnes_any e f hg _).mono ?_; rintro rv w1 ⟨rfl, hb⟩; have ns : w.heap.size + 1 < w1.heap.size := hb.lt (by first | with_reducible assumption | omega | (simp; done) | (simp; omega)); have n0 : w1.cell? ⟨w.heap.size, 0, none⟩ = some (.int .i64 e) := (hb.cells _ _ (by first | with_reducible assumption | omega | (simp; done) | (simp; omega))).trans (by first | with_reducible assumption | (simp; done) | (simp; with_reducible assumption) | (rw [cell_alloc_before _ _ _ _ (by omega)]; with_reducible assumption) | (simp [go_sem, *]; done)); have n1 : w1.cell? ⟨w.heap.size, 1, none⟩ = some (.int .i64 f) := (hb.cells _ _ (by first | with_reducible assumption | omega | (simp; done) | (simp; omega))).trans (by first | with_reducible assumption | (simp; done) | (simp; with_reducible assumption) | (rw [cell_alloc_before _ _ _ _ (by omega)]; with_reducible assumption) | (simp [go_sem, *]; done)); have n2 : w1.cell? ⟨w.heap.size + 1, 0, none⟩ = some (.int .i64 0) := (hb.cells _ _ (by first | with_reducible assumption | omega | (simp; done) | (simp; omega))).trans (by first | with_reducible assumption | (simp; done) | (simp; with_reducible assumption) | (rw [cell_alloc_before _ _ _ _ (by omega)]; with_reducible assumption) | (simp [go_sem, *]; done)); have n3 : w1.cell? ⟨w.heap.size + 1, 1, none⟩ = some (.int .i64 0) := (hb.cells _ _ (by first | with_reducible assumption | omega | (simp; done) | (simp; omega))).trans (by first | with_reducible assumption | (simp; done) | (simp; with_reducible assumption) | (rw [cell_alloc_before _ _ _ _ (by omega)]; with_reducible assumption) | (simp [go_sem, *]; done)); have n4 : w1.cell? ⟨w.heap.size + 1, 2, none⟩ = some (.int .i64 0) := (hb.cells _ _ (by first | with_reducible assumption | omega | (simp; done) | (simp; omega))).trans (by first | with_reducible assumption | (simp; done) | (simp; with_reducible assumption) | (rw [cell_alloc_before _ _ _ _ (by omega)]; with_reducible assumption) | (simp [go_sem, *]; done)); have nz0 : w1.frozen? ⟨w.heap.size + 1, 0, none⟩ = false := (hb.frz _ _ (by first | with_reducible assumption | omega | (simp; done) | (simp; omega))).trans (by first | with_reducible assumption | (simp [go_sem]; done) | (simp [go_sem]; with_reducible assumption)); have nz1 : w1.frozen? ⟨w.heap.size + 1, 1, none⟩ = false := (hb.frz _ _ (by first | with_reducible assumption | omega | (simp; done) | (simp; omega))).trans (by first | with_reducible assumption | (simp [go_sem]; done) | (simp [go_sem]; with_reducible assumption)); have nz2 : w1.frozen? ⟨w.heap.size + 1, 2, none⟩ = false := (hb.frz _ _ (by first | with_reducible assumption | omega | (simp; done) | (simp; omega))).trans (by first | with_reducible assumption | (simp [go_sem]; done) | (simp [go_sem]; with_reducible assumption)); (first | (have nx := Ext.trans hx hb; clear hx) | (have nx := Ext.trans (hx.alloc _) hb; clear hx) | (have nx := Ext.trans hx.drew hb; clear hx) | have nx := hb); clear hb; try clear hs; try clear g0; try clear g1; try clear g2; try clear g3; try clear g4; try clear z0; try clear z1; try clear z2; have hx := nx; clear nx; have hs := ns; clear ns; have g0 := n0; clear n0; have g1 := n1; clear n1; have g2 := n2; clear n2; have g3 := n3; clear n3; have g4 := n4; clear n4; have z0 := nz0; clear nz0; have z1 := nz1; clear nz1; have z2 := nz2; clear nz2)))
  go_wp2
  refine bodyPost_ret (v := .agg #[.int .i64 (0), .int .i64 ((E : Int) - 126 - f), .int .i64 ((M : Int) / pw (23 - f))]) (by simp [results, Try.results133, go_sem, *]) rfl ⟨rfl, (by repeat (first | exact Ext.refl _ | with_reducible assumption | apply Ext.alloc | apply Ext.drew | apply Ext.drewN | (refine Ext.setRow ?_ (by first | (simp; done) | (simp; omega) | omega) _) | (refine Ext.setCell ?_ (by first | (simp; done) | (simp; omega) | omega) _) | (refine Ext.trans ?_ (by with_reducible assumption))))⟩

theorem ff_any (e f : Int) (V : Nat) (hg : goodB e f = true) (ok : Ok Ieee.single V) (hV : V < 2 ^ 190) (w : World) : Calls Try.prog 133 #[fmt e f, .float .f32 (fw Ieee.single V)] w (FFout f V w) := by
  obtain ⟨h1, h2, h3, h4⟩ := good_iff.1 hg
  have p149 : pw 149 = ((2 ^ 149 : Nat) : Int) := (pw_cast 149).symm
  have hA := pw_pos f
  by_cases hu : ((V / 2 ^ 149 : Nat) : Int) < pw f
  · refine (ff_low e f V hg ok hV hu w).mono ?_
    rintro rv w' ⟨rfl, hb⟩
    have hd := Nat.div_add_mod V (2 ^ 149)
    have hm := Nat.mod_lt V (Nat.two_pow_pos 149)
    have q1 : mgV f (0 * pw f + ((V / 2 ^ 149 : Nat) : Int)) = ((V / 2 ^ 149 : Nat) : Int) := by
      rw [Int.zero_mul, Int.zero_add]; exact mg_small f _ (by omega) hu
    have q2 : mgV f (0 * pw f + ((V / 2 ^ 149 : Nat) : Int) + 1) = ((V / 2 ^ 149 : Nat) : Int) + 1 := by
      have st := mg_step f (0 * pw f + ((V / 2 ^ 149 : Nat) : Int)) h3 (by rw [Int.zero_mul]; omega)
      rw [st, q1, Int.zero_mul, Int.zero_add, Int.ediv_eq_zero_of_lt (by omega) hu]
      rfl
    refine ⟨0, _, rfl, by decide, ⟨by omega, hu⟩, ?_, ?_, hb⟩
    · rw [q1, p149]
      have : ((V / 2 ^ 149 : Nat) : Int) * ((2 ^ 149 : Nat) : Int) = ((2 ^ 149 * (V / 2 ^ 149) : Nat) : Int) := by rw [Nat.mul_comm, Int.natCast_mul]
      rw [this]
      omega
    · rw [q2, p149, Int.add_mul, Int.one_mul]
      have : ((V / 2 ^ 149 : Nat) : Int) * ((2 ^ 149 : Nat) : Int) = ((2 ^ 149 * (V / 2 ^ 149) : Nat) : Int) := by rw [Nat.mul_comm, Int.natCast_mul]
      rw [this]
      omega
  · have hbig : pw f * pw 149 ≤ (V : Int) := by
      have hd := Nat.div_add_mod V (2 ^ 149)
      have a := Int.mul_le_mul_of_nonneg_right (show pw f ≤ ((V / 2 ^ 149 : Nat) : Int) by omega) (show 0 ≤ ((2 ^ 149 : Nat) : Int) by omega)
      have : ((V / 2 ^ 149 : Nat) : Int) * ((2 ^ 149 : Nat) : Int) = ((2 ^ 149 * (V / 2 ^ 149) : Nat) : Int) := by rw [Nat.mul_comm, Int.natCast_mul]
      rw [this] at a
      rw [p149]
      omega
    have h2V : 8388608 ≤ V := by
      have a := Int.mul_le_mul (show 1 ≤ pw f by omega) (show (8388608 : Int) ≤ pw 149 from pw_ge 23 _ rfl (by decide)) (by decide) (by omega)
      omega
    obtain ⟨E, M, e1, e2, e3, e4, e5⟩ := single_parts ok h2V
    obtain ⟨q1, q2, q3, q4⟩ := parts_below h3 h4 e2 e3 e4 hbig
    refine (ff_high e f V E M hg ok hV (by omega) e1 e2 e5 q1 w).mono ?_
    rintro rv w' ⟨rfl, hb⟩
    exact ⟨_, _, rfl, by omega, q2, q3, q4, hb⟩
end Go.Proofs.Ytcpamgmaijjhoaa

namespace Go.Proofs.Ytcpamgmaijjhoaa
open Go Go.RowKit
set_option linter.unusedSimpArgs false
set_option linter.unusedVariables false

theorem floatOf_mg (e f s x r : Int) (hg : goodB e f = true) (hx0 : 0 ≤ x) (hx1 : x < 31) (hr0 : 0 ≤ r) (hr1 : r < pw f) (w : World) : Calls Try.prog 130 #[fmt e f, .agg #[.int .i64 s, .int .i64 x, .int .i64 r]] w fun rv w' => rv = .returned (.float .f32 (fw Ieee.single (mgN f (x * pw f + r)))) ∧ Ext w w' := by
  obtain ⟨h1, h2, h3, h4⟩ := good_iff.1 hg
  have c2 : pw f ≤ 1024 := pw_le 10 1024 rfl h4
  by_cases hx : x = 0
  · subst hx
    rw [Int.zero_mul, Int.zero_add, ← (mgN_low f r hr0 hr1 (by omega)).2]
    exact floatOf_sub e f s r hg hr0 (by omega) w
  · rw [← (mgN_high f x r h3 h4 (by omega) hx1 hr0 hr1).2]
    exact floatOf_norm e f s x r hg (by omega) hx1 hr0 hr1 w
end Go.Proofs.Ytcpamgmaijjhoaa

