/-
  Contracts of the functions that the laws reach, and the plain facts that they rest on, each under the conditions that its line names; part 23.
-/
import Derived.Test.YtcpamgmaijjhoaaKst1
import Derived.Test.YtcpamgmaijjhoaaKst2
import Derived.Test.YtcpamgmaijjhoaaKst3
import Derived.Test.YtcpamgmaijjhoaaKst4
import Derived.Test.YtcpamgmaijjhoaaKst5
import Derived.Test.YtcpamgmaijjhoaaKst6
import Derived.Test.YtcpamgmaijjhoaaKst7
import Derived.Test.YtcpamgmaijjhoaaKst8
import Derived.Test.YtcpamgmaijjhoaaKst9
import Derived.Test.YtcpamgmaijjhoaaKst10
import Derived.Test.YtcpamgmaijjhoaaKst11
import Derived.Test.YtcpamgmaijjhoaaKst12
import Derived.Test.YtcpamgmaijjhoaaKst13
import Derived.Test.YtcpamgmaijjhoaaKst14
import Derived.Test.YtcpamgmaijjhoaaKst15
import Derived.Test.YtcpamgmaijjhoaaKst16
import Derived.Test.YtcpamgmaijjhoaaKst17
import Derived.Test.YtcpamgmaijjhoaaKst18
import Derived.Test.YtcpamgmaijjhoaaKst19
import Derived.Test.YtcpamgmaijjhoaaKst20
import Derived.Test.YtcpamgmaijjhoaaKst21
import Derived.Test.YtcpamgmaijjhoaaKst22
import Derived.Test.YtcpamgmaijjhoaaRows
import Derived.WalkKit
import Derived.LoopTactic
import Derived.LoopN
import Derived.Laws.OwnMore
import Derived.OwnWalk
import Derived.Deep.AppendLies
import Derived.Laws.Bits64b
import Derived.WalkSpells
import Derived.WalkLawsBesides
import Derived.StillTactics
import Derived.Laws.Pointers
import Derived.Deep.RegionHeld3
import Derived.Deep.QuietTactic
import Derived.BigQuiet
import Derived.Outline
import Derived.Lib.Hide
import Derived.RowKit3
import Derived.Carry
import Derived.IntWalk
namespace Go.Proofs.Ytcpamgmaijjhoaa
open Go Go.RowKit
set_option linter.unusedSimpArgs false
set_option linter.unusedVariables false
set_option maxRecDepth 100000

theorem own_ext {w w' : World} {base : Nat} {e : TypeId} {size : Nat} {v : Value} {n : Nat} {xs : List Value} (h : w.ownsRow base e size v n xs) (hb : Ext w w') : w'.ownsRow base e size v n xs :=
  h.kept (row := none) ⟨hb.os, hb.tape, hb.output, hb.size, fun k hk _ => hb.block k hk⟩ (by by_cases h : v.ownBlock = none; exact Or.inl h; exact Or.inr h)

theorem ext_grown {w W w' : World} {row : Option Nat} (hx : Ext w W) (hg : W.grownBy w' row) (hr : ∀ k, row = some k → w.heap.size ≤ k) : Ext w w' :=
  ⟨hg.os.trans hx.os, hg.tape.trans hx.tape, hg.output.trans hx.output, Nat.le_trans hx.size hg.size, fun k hk => (hg.block k (Nat.lt_of_lt_of_le hk hx.size) (fun h => by have := hr k h.symm; omega)).trans (hx.block k hk)⟩

set_option maxHeartbeats 3200000 in
theorem valuesOf2_ (e f a b : Int) (g : Nat) (hg1 : goodB e f = true) (ha : finB e f a = true) (hb2 : finB e f b = true) (w : World) (ca : w.cell? ⟨g, 0, none⟩ = some (.int .i64 a)) (cb : w.cell? ⟨g, 1, none⟩ = some (.int .i64 b)) (hg : g < w.heap.size) :
    Calls Try.prog 105 #[fmt e f, .slice (some ⟨g, 0, none⟩) 2 2] w fun rv w' => ∃ v B, rv = .returned (.tuple #[v, .bool true]) ∧ w.heap.size ≤ B ∧ w'.ownsRow B 111 1 v 2 [.float .f32 (floatOfInt .f32 (unitsV e f a)), .float .f32 (floatOfInt .f32 (unitsV e f b))] ∧ Ext w w' := by
  obtain ⟨i, hi, hz, hsz, hby⟩ : ∃ i, Try.prog.info? 111 = some i ∧ i.zero = some (Value.float .f32 0) ∧ i.size = 1 ∧ i.bytes = 4 := by
    cases h : Try.prog.info? 111 with
    | none => exact absurd h (by have : (Try.prog.info? 111).isSome = true := by kernel_rfl
                                 intro h2; rw [h2] at this; cases this)
    | some i =>
      refine ⟨i, rfl, ?_, ?_, ?_⟩
      · have : (Try.prog.info? 111).map (·.zero) = some (some (Value.float .f32 0)) := by kernel_rfl
        rw [h] at this; exact Option.some.inj this
      · have : (Try.prog.info? 111).map (·.size) = some 1 := by kernel_rfl
        rw [h] at this; exact Option.some.inj this
      · have : (Try.prog.info? 111).map (·.bytes) = some 4 := by kernel_rfl
        rw [h] at this; exact Option.some.inj this
  have HI := Lib.hid hi; have HZ := Lib.hid hz; have HSZ := Lib.hid hsz; have HBY := Lib.hid hby; clear hi hz hsz hby
  go_enter Try.func105, Try.ntmps105
  go_wp2_with (go_at_call 93; refine (isFormat_any e f _).mono ?_; rintro rv w0 ⟨rfl, hb⟩; have ns : max w.heap.size g < w0.heap.size := hb.lt (by first | with_reducible assumption | omega | (simp; done) | (simp; omega)); have n0 : w0.cell? ⟨w.heap.size, 0, none⟩ = some (.int .i64 e) := (hb.cells _ _ (by first | with_reducible assumption | omega | (simp; done) | (simp; omega))).trans (by first | with_reducible assumption | (simp; done) | (simp; with_reducible assumption) | (rw [cell_alloc_before _ _ _ _ (by omega)]; with_reducible assumption) | (simp [go_sem, *]; done)); have n1 : w0.cell? ⟨w.heap.size, 1, none⟩ = some (.int .i64 f) := (hb.cells _ _ (by first | with_reducible assumption | omega | (simp; done) | (simp; omega))).trans (by first | with_reducible assumption | (simp; done) | (simp; with_reducible assumption) | (rw [cell_alloc_before _ _ _ _ (by omega)]; with_reducible assumption) | (simp [go_sem, *]; done)); have n2 : w0.cell? ⟨g, 0, none⟩ = some (.int .i64 a) := (hb.cells _ _ (by first | with_reducible assumption | omega | (simp; done) | (simp; omega))).trans (by first | with_reducible assumption | (simp; done) | (simp; with_reducible assumption) | (rw [cell_alloc_before _ _ _ _ (by omega)]; with_reducible assumption) | (simp [go_sem, *]; done)); have n3 : w0.cell? ⟨g, 1, none⟩ = some (.int .i64 b) := (hb.cells _ _ (by first | with_reducible assumption | omega | (simp; done) | (simp; omega))).trans (by first | with_reducible assumption | (simp; done) | (simp; with_reducible assumption) | (rw [cell_alloc_before _ _ _ _ (by omega)]; with_reducible assumption) | (simp [go_sem, *]; done)); (first | (have nx := Ext.trans hx hb; clear hx) | (have nx := Ext.trans (hx.alloc _) hb; clear hx) | (have nx := Ext.trans hx.drew hb; clear hx) | have nx := hb); clear hb; try clear hs; try clear g0; try clear g1; try clear g2; try clear g3; have hx := nx; clear nx; have hs := ns; clear ns; have g0 := n0; clear n0; have g1 := n1; clear n1; have g2 := n2; clear n2; have g3 := n3; clear n3)
  have own0 := (World.ownsRow_lit (base := w0.heap.size) (e := 111) (size := 1) w0 #[] 0 (by simp) (by decide) rfl)
  have hs0 := ns
  have hgA : g < w0.heap.size := by omega
  have hwA : w.heap.size < w0.heap.size := by omega
  have k0 := (cell_alloc_before w0 (.cells #[] 111) _ 0 hwA).trans n0
  have k1 := (cell_alloc_before w0 (.cells #[] 111) _ 1 hwA).trans n1
  have k2 := (cell_alloc_before w0 (.cells #[] 111) _ 0 hgA).trans n2
  have k3 := (cell_alloc_before w0 (.cells #[] 111) _ 1 hgA).trans n3
  have OWN := Lib.hid own0; clear own0
  refine wp_loop_rounds 3 ?_
  rw [rounds_succ]
  go_wp2_with (first | (go_at_call 50; (with_reducible refine (iUnitsOf_yes e f a ha _).mono ?_); rintro rv w1 ⟨rfl, hb⟩; (first | (have OWN9 := Lib.hid (own_ext OWN.out hb); clear OWN; have OWN := OWN9; clear OWN9) | (have OWN9 := Lib.hid (own_ext (own_ext OWN.out (Ext.new _ _)) hb); clear OWN; have OWN := OWN9; clear OWN9)); have ns : w0.heap.size < w1.heap.size := hb.lt (by first | with_reducible assumption | omega | (simp; done) | (simp; omega)); have n0 : w1.cell? ⟨w.heap.size, 0, none⟩ = some (.int .i64 e) := (hb.cells _ _ (by first | with_reducible assumption | omega | (simp; done) | (simp; omega))).trans (by first | with_reducible assumption | (simp; done) | (simp; with_reducible assumption) | (rw [cell_alloc_before _ _ _ _ (by omega)]; with_reducible assumption) | (simp [go_sem, *]; done)); have n1 : w1.cell? ⟨w.heap.size, 1, none⟩ = some (.int .i64 f) := (hb.cells _ _ (by first | with_reducible assumption | omega | (simp; done) | (simp; omega))).trans (by first | with_reducible assumption | (simp; done) | (simp; with_reducible assumption) | (rw [cell_alloc_before _ _ _ _ (by omega)]; with_reducible assumption) | (simp [go_sem, *]; done)); have n2 : w1.cell? ⟨g, 0, none⟩ = some (.int .i64 a) := (hb.cells _ _ (by first | with_reducible assumption | omega | (simp; done) | (simp; omega))).trans (by first | with_reducible assumption | (simp; done) | (simp; with_reducible assumption) | (rw [cell_alloc_before _ _ _ _ (by omega)]; with_reducible assumption) | (simp [go_sem, *]; done)); have n3 : w1.cell? ⟨g, 1, none⟩ = some (.int .i64 b) := (hb.cells _ _ (by first | with_reducible assumption | omega | (simp; done) | (simp; omega))).trans (by first | with_reducible assumption | (simp; done) | (simp; with_reducible assumption) | (rw [cell_alloc_before _ _ _ _ (by omega)]; with_reducible assumption) | (simp [go_sem, *]; done)); (first | (have nx := Ext.trans hx hb; clear hx) | (have nx := Ext.trans (hx.alloc _) hb; clear hx) | (have nx := Ext.trans hx.drew hb; clear hx) | have nx := hb); clear hb; try clear hs; try clear g0; try clear g1; try clear g2; try clear g3; have hx := nx; clear nx; have hs := ns; clear ns; have g0 := n0; clear n0; have g1 := n1; clear n1; have g2 := n2; clear n2; have g3 := n3; clear n3) | (at_builtin; (refine wpList_append_own _ rfl (.tmp 34) (.tmp 37) 108 rfl (w0.heap.size) 111 i _ 1 4 Try.underlying108 HI.out HZ.out HSZ.out HBY.out rfl (by decide) (.slice (some ⟨w0.heap.size, 0, none⟩) 0 0) 0 [] rfl (own_ext OWN.out (Ext.new _ _)) _ 1 1 [(.float .f32 (floatOfInt .f32 (unitsV e f a)))] rfl rfl (fun j u hj => by cases j with | zero => (simp at hj; subst hj; simp [go_sem, Addr.add]) | succ j => simp at hj) (by simp [Value.oneCell']) (by simp [maxLen]) (by omega) (by simp; omega) ?_); intro v9 w9 OWN8 hgr _; have hne : ∀ k, k < w0.heap.size → some k ≠ Value.ownBlock (.slice (some ⟨w0.heap.size, 0, none⟩) 0 0) := fun k hk h => (by have := (World.ownsRow.lt OWN.out _ h.symm).1; omega); have c0 : w9.cell? ⟨w.heap.size, 0, none⟩ = some (.int .i64 e) := hgr.cell ((cell_alloc_before _ _ (w.heap.size) 0 (by omega)).trans (by with_reducible assumption)) (hne (w.heap.size) (by omega)); have c1 : w9.cell? ⟨w.heap.size, 1, none⟩ = some (.int .i64 f) := hgr.cell ((cell_alloc_before _ _ (w.heap.size) 1 (by omega)).trans (by with_reducible assumption)) (hne (w.heap.size) (by omega)); have c2 : w9.cell? ⟨g, 0, none⟩ = some (.int .i64 a) := hgr.cell ((cell_alloc_before _ _ (g) 0 (by omega)).trans (by with_reducible assumption)) (hne (g) (by omega)); have c3 : w9.cell? ⟨g, 1, none⟩ = some (.int .i64 b) := hgr.cell ((cell_alloc_before _ _ (g) 1 (by omega)).trans (by with_reducible assumption)) (hne (g) (by omega)); have sz : w1.heap.size + 1 ≤ w9.heap.size := (by have h := hgr.size; rwa [World.size_alloc] at h); have hs9 : w0.heap.size < w9.heap.size := (by omega); have hx9 : Ext w w9 := ext_grown (by repeat (first | exact Ext.refl _ | with_reducible assumption | apply Ext.alloc | apply Ext.drew | apply Ext.drewN | (refine Ext.setRow ?_ (by first | (simp; done) | (simp; omega) | omega) _) | (refine Ext.setCell ?_ (by first | (simp; done) | (simp; omega) | omega) _) | (refine Ext.trans ?_ (by with_reducible assumption)))) hgr (fun k hk => by have := (World.ownsRow.lt OWN.out k hk).1; omega); have OWN7 : RowKit.Hid (w9.ownsRow w0.heap.size 111 1 v9 1 [(.float .f32 (floatOfInt .f32 (unitsV e f a)))]) := OWN8; clear OWN OWN8 hne hgr; have OWN := OWN7; clear OWN7))
  rw [rounds_succ]
  go_wp2_with (first | (go_at_call 50; (with_reducible refine (iUnitsOf_yes e f b hb2 _).mono ?_); rintro rv w1 ⟨rfl, hb⟩; (first | (have OWN9 := Lib.hid (own_ext OWN.out hb); clear OWN; have OWN := OWN9; clear OWN9) | (have OWN9 := Lib.hid (own_ext (own_ext OWN.out (Ext.new _ _)) hb); clear OWN; have OWN := OWN9; clear OWN9)); have ns : w0.heap.size < w1.heap.size := hb.lt (by first | with_reducible assumption | omega | (simp; done) | (simp; omega)); have n0 : w1.cell? ⟨w.heap.size, 0, none⟩ = some (.int .i64 e) := (hb.cells _ _ (by first | with_reducible assumption | omega | (simp; done) | (simp; omega))).trans (by first | with_reducible assumption | (simp; done) | (simp; with_reducible assumption) | (rw [cell_alloc_before _ _ _ _ (by omega)]; with_reducible assumption) | (simp [go_sem, *]; done)); have n1 : w1.cell? ⟨w.heap.size, 1, none⟩ = some (.int .i64 f) := (hb.cells _ _ (by first | with_reducible assumption | omega | (simp; done) | (simp; omega))).trans (by first | with_reducible assumption | (simp; done) | (simp; with_reducible assumption) | (rw [cell_alloc_before _ _ _ _ (by omega)]; with_reducible assumption) | (simp [go_sem, *]; done)); have n2 : w1.cell? ⟨g, 0, none⟩ = some (.int .i64 a) := (hb.cells _ _ (by first | with_reducible assumption | omega | (simp; done) | (simp; omega))).trans (by first | with_reducible assumption | (simp; done) | (simp; with_reducible assumption) | (rw [cell_alloc_before _ _ _ _ (by omega)]; with_reducible assumption) | (simp [go_sem, *]; done)); have n3 : w1.cell? ⟨g, 1, none⟩ = some (.int .i64 b) := (hb.cells _ _ (by first | with_reducible assumption | omega | (simp; done) | (simp; omega))).trans (by first | with_reducible assumption | (simp; done) | (simp; with_reducible assumption) | (rw [cell_alloc_before _ _ _ _ (by omega)]; with_reducible assumption) | (simp [go_sem, *]; done)); (first | (have nx := Ext.trans hx hb; clear hx) | (have nx := Ext.trans (hx.alloc _) hb; clear hx) | (have nx := Ext.trans hx.drew hb; clear hx) | have nx := hb); clear hb; try clear hs; try clear g0; try clear g1; try clear g2; try clear g3; have hx := nx; clear nx; have hs := ns; clear ns; have g0 := n0; clear n0; have g1 := n1; clear n1; have g2 := n2; clear n2; have g3 := n3; clear n3) | (at_builtin; (refine wpList_append_own _ rfl (.tmp 34) (.tmp 37) 108 rfl (w0.heap.size) 111 i _ 1 4 Try.underlying108 HI.out HZ.out HSZ.out HBY.out rfl (by decide) v9 1 [(.float .f32 (floatOfInt .f32 (unitsV e f a)))] rfl (own_ext OWN.out (Ext.new _ _)) _ 1 1 [(.float .f32 (floatOfInt .f32 (unitsV e f b)))] rfl rfl (fun j u hj => by cases j with | zero => (simp at hj; subst hj; simp [go_sem, Addr.add]) | succ j => simp at hj) (by simp [Value.oneCell']) (by simp [maxLen]) (by omega) (by simp; omega) ?_); intro v8 w8 OWN8 hgr _; have hne : ∀ k, k < w0.heap.size → some k ≠ Value.ownBlock v9 := fun k hk h => (by have := (World.ownsRow.lt OWN.out _ h.symm).1; omega); have c0 : w8.cell? ⟨w.heap.size, 0, none⟩ = some (.int .i64 e) := hgr.cell ((cell_alloc_before _ _ (w.heap.size) 0 (by omega)).trans (by with_reducible assumption)) (hne (w.heap.size) (by omega)); have c1 : w8.cell? ⟨w.heap.size, 1, none⟩ = some (.int .i64 f) := hgr.cell ((cell_alloc_before _ _ (w.heap.size) 1 (by omega)).trans (by with_reducible assumption)) (hne (w.heap.size) (by omega)); have c2 : w8.cell? ⟨g, 0, none⟩ = some (.int .i64 a) := hgr.cell ((cell_alloc_before _ _ (g) 0 (by omega)).trans (by with_reducible assumption)) (hne (g) (by omega)); have c3 : w8.cell? ⟨g, 1, none⟩ = some (.int .i64 b) := hgr.cell ((cell_alloc_before _ _ (g) 1 (by omega)).trans (by with_reducible assumption)) (hne (g) (by omega)); have sz : w1.heap.size + 1 ≤ w8.heap.size := (by have h := hgr.size; rwa [World.size_alloc] at h); have hs9 : w0.heap.size < w8.heap.size := (by omega); have hx9 : Ext w w8 := ext_grown (by repeat (first | exact Ext.refl _ | with_reducible assumption | apply Ext.alloc | apply Ext.drew | apply Ext.drewN | (refine Ext.setRow ?_ (by first | (simp; done) | (simp; omega) | omega) _) | (refine Ext.setCell ?_ (by first | (simp; done) | (simp; omega) | omega) _) | (refine Ext.trans ?_ (by with_reducible assumption)))) hgr (fun k hk => by have := (World.ownsRow.lt OWN.out k hk).1; omega); have OWN7 : RowKit.Hid (w8.ownsRow w0.heap.size 111 1 v8 2 [(.float .f32 (floatOfInt .f32 (unitsV e f a))), (.float .f32 (floatOfInt .f32 (unitsV e f b)))]) := OWN8; clear OWN OWN8 hne hgr; have OWN := OWN7; clear OWN7))
  rw [rounds_succ]
  go_wp2_with fail
  go_ret2
  exact ⟨v8, _, rfl, by omega, OWN.out, (by repeat (first | exact Ext.refl _ | with_reducible assumption | apply Ext.alloc | apply Ext.drew | apply Ext.drewN | (refine Ext.setRow ?_ (by first | (simp; done) | (simp; omega) | omega) _) | (refine Ext.setCell ?_ (by first | (simp; done) | (simp; omega) | omega) _) | (refine Ext.trans ?_ (by with_reducible assumption))))⟩

/-- What the values of two patterns are. -/
def VO2 (e f a b : Int) (w : World) (rv : Ending) (w' : World) : Prop := ∃ gl cap, rv = .returned (.tuple #[.slice (some ⟨gl, 0, none⟩) 2 cap, .bool true]) ∧ w.heap.size ≤ gl ∧ gl < w'.heap.size ∧ w'.cell? ⟨gl, 0, none⟩ = some (.float .f32 (floatOfInt .f32 (unitsV e f a))) ∧ w'.cell? ⟨gl, 1, none⟩ = some (.float .f32 (floatOfInt .f32 (unitsV e f b))) ∧ Ext w w'

theorem valuesOf2 (e f a b : Int) (g : Nat) (ha : finB e f a = true) (hb2 : finB e f b = true) (w : World) (ca : w.cell? ⟨g, 0, none⟩ = some (.int .i64 a)) (cb : w.cell? ⟨g, 1, none⟩ = some (.int .i64 b)) (hg : g < w.heap.size) :
    Calls Try.prog 105 #[fmt e f, .slice (some ⟨g, 0, none⟩) 2 2] w (VO2 e f a b w) := by
  refine (valuesOf2_ e f a b g (pat_iff.1 (fin_pat ha).1).1 ha hb2 w ca cb hg).mono ?_
  rintro rv w' ⟨v, B, rfl, hB, how, hb⟩
  obtain ⟨gl, cap, rfl, hg1, hg2⟩ := how.form (by omega)
  have c0 := how.cellAt 0 (by omega)
  have c1 := how.cellAt 1 (by omega)
  simp only [List.getElem?_cons_zero, List.getElem?_cons_succ] at c0 c1
  exact ⟨gl, cap, rfl, by omega, by omega, c0, c1, hb⟩

theorem archTrunc_run (y : Nat) (hn : ∃ s m i, FloatKind.f64.decode y = .number s m i) (h : FloatKind.f64.encode ((FloatKind.f64.decode y).integral .zero) = y) (w : World) : (callFunc 211 #[.float .f64 y]).run Try.prog w = .ok (.value (.float .f64 y)) w := by
  refine (run_callFunc_extern (e := Extern.MathFloor.toIntegral "math.archTrunc" .zero) Try.func211 (by kernel_rfl) (by kernel_rfl) (by kernel_rfl) (by kernel_rfl) _ w).trans ?_
  obtain ⟨s, m, i, hn⟩ := hn
  have e : Extern.MathFloor.toIntegral "math.archTrunc" .zero #[.float .f64 y] = pure (.float .f64 y) := by
    unfold Extern.MathFloor.toIntegral
    generalize FloatKind.f64.decode = D at *
    generalize FloatKind.f64.encode = E at *
    rw [hn] at h
    conv => lhs; whnf
    rw [hn]
    conv => rhs; rw [← h]
  rw [e]
  rfl

theorem trunc_any (y : Nat) (hn : ∃ s m i, FloatKind.f64.decode y = .number s m i) (h : FloatKind.f64.encode ((FloatKind.f64.decode y).integral .zero) = y) (w : World) : Calls Try.prog 207 #[.float .f64 y] w fun rv w' => rv = .returned (.float .f64 y) ∧ w = w' := by
  have q := archTrunc_run y hn h
  clear hn h
  go_enter Try.func207, Try.ntmps207
  go_wp2
  go_ret
  exact ⟨rfl, rfl⟩

theorem sizeOf_inf (s : Bool) (w : World) : Calls Try.prog 169 #[.float .f32 (Ieee.single.word s Ieee.single.infRung)] w fun rv w' => rv = .returned (.float .f32 2139095040) ∧ Ext w w' := by
  have k1 : ∀ w, (Op.unary .neg (.float .f32 (Ieee.single.word s Ieee.single.infRung))).run Try.prog w = .ok (.float .f32 (Ieee.single.word (!s) Ieee.single.infRung)) w := fun w => by
    rw [← neg_word s _ (by decide)]
    rfl
  have k2 : ∀ (ts : Array TypeId) (t : TypeId) (w : World), (Builtin.max_ ts t #[.float .f32 (Ieee.single.word s Ieee.single.infRung), .float .f32 (Ieee.single.word (!s) Ieee.single.infRung)]).run Try.prog w = .ok (.float .f32 2139095040) w := by
    intro ts t w
    cases s <;> rfl
  generalize Ieee.single.word s Ieee.single.infRung = x at *
  generalize Ieee.single.word (!s) Ieee.single.infRung = y at *
  go_enter Try.func169, Try.ntmps169
  go_wp2
  go_ret
  exact ⟨rfl, (by repeat (first | exact Ext.refl _ | with_reducible assumption | apply Ext.alloc | apply Ext.drew | apply Ext.drewN | (refine Ext.setRow ?_ (by first | (simp; done) | (simp; omega) | omega) _) | (refine Ext.setCell ?_ (by first | (simp; done) | (simp; omega) | omega) _) | (refine Ext.trans ?_ (by with_reducible assumption))))⟩

/-- The pattern of a value of u units, s being that of its size. -/
def psV (e f u s : Int) : Int := if u < 0 then pw (e + f) + s else s

theorem iPu_s (e f s u : Int) (hg : goodB e f = true) (s0 : 0 ≤ s) (s1 : s ≤ grV e f) (hu : (u.natAbs : Int) = mgV f s) (w : World) : Calls Try.prog 57 #[fmt e f, .int .i64 u] w fun rv w' => rv = .returned (.tuple #[.int .i64 (psV e f u s), .bool true]) ∧ Ext w w' := by
  have hb := mg_bd hg s0 s1
  have hm : max u (-u) = mgV f s := by omega
  have hf := (good_iff.1 hg).2.2.1
  refine (iPu_yes e f u (by unfold puB; rw [hg]; simp; omega) w).mono ?_
  rintro rv w' ⟨p, rfl, hp, hb2⟩
  have hs : IsBelow f ((pw e - 1) * pw f - 1) (max u (-u)) s := by
    refine ⟨s0, s1, by omega, ?_⟩
    have := mg_st hf s0
    right
    omega
  obtain rfl := below_one f _ _ p s hf hp hs
  have e1 : (mgV f p == max u (-u)) = true := by rw [hm]; simp
  refine ⟨?_, hb2⟩
  unfold puV psV
  rw [e1, if_pos rfl]

set_option maxHeartbeats 3200000 in
theorem pv_fin (e f s : Int) (t : Bool) (hg : goodB e f = true) (s0 : 0 ≤ s) (s1 : s ≤ grV e f) (w : World) : Calls Try.prog 195 #[fmt e f, .float .f32 (sw Ieee.single t (mgN f s))] w fun rv w' => rv = .returned (.tuple #[.int .i64 (psV e f (sv t (mgV f s).toNat) s), .bool true]) ∧ Ext w w' := by
  obtain ⟨okM, ltM⟩ := mgN_ok hg s0 s1
  have hb := mg_bd hg s0 s1
  obtain ⟨wm, okN⟩ := wide_sw false okM
  have o1 := up_lt okM ltM
  have o2 := order_same okN
  have hu : ((sv t (mgV f s).toNat).natAbs : Int) = mgV f s := by unfold sv; split <;> omega
  have hpu := fun w => iPu_s e f s _ hg s0 s1 hu w
  have hic2 := int_mg t okM (by omega)
  have htr : ∀ w, Calls Try.prog 207 #[.float .f64 (fw Ieee.double (up64 (mgN f s)))] w fun rv w' => rv = .returned (.float .f64 (fw Ieee.double (up64 (mgN f s)))) ∧ w = w' := by
    intro w
    exact trunc_any _ (up_numf okN) (trunc_mg okM) w
  have hsz := fun w => sizeOf_sw t (mgN f s) okM w
  rw [sw_pos, sw_pos] at wm
  have cv1 : ∀ w, (convert 111 112 (.float .f32 (fw Ieee.single (mgN f s)))).run Try.prog w = .ok (.float .f64 (fw Ieee.double (up64 (mgN f s)))) w := fun w =>
    run_convert_float_float w _ _ .f32 .f64 _ _ (by kernel_rfl) Try.underlying112 wm
  have cv2 : ∀ w, (convert 111 3 (.float .f32 (sw Ieee.single t (mgN f s)))).run Try.prog w = .ok (.int .i64 (sv t (mgV f s).toNat)) w := fun w =>
    run_convert_float_int w _ _ .f32 .i64 _ _ (by kernel_rfl) Try.underlying3 hic2
  clear okM ltM hb wm okN hu hic2
  generalize sv t (mgV f s).toNat = u at *
  generalize sw Ieee.single t (mgN f s) = x1 at *
  generalize fw Ieee.double (up64 (mgN f s)) = x2 at *
  generalize fw Ieee.single (mgN f s) = x3 at *
  have HTR := Lib.hid htr; clear htr
  have HSZ := Lib.hid hsz; clear hsz
  have HPU := Lib.hid hpu; clear hpu
  go_enter Try.func195, Try.ntmps195
  go_wp2_with (first | (go_at_call 169; refine (HSZ.out _).mono ?_; rintro rv w1 ⟨rfl, hb⟩; have ns : w.heap.size < w1.heap.size := hb.lt (by first | with_reducible assumption | omega | (simp; done) | (simp; omega)); have n0 : w1.cell? ⟨w.heap.size, 0, none⟩ = some (.int .i64 e) := (hb.cells _ _ (by first | with_reducible assumption | omega | (simp; done) | (simp; omega))).trans (by first | with_reducible assumption | (simp; done) | (simp; with_reducible assumption) | (rw [cell_alloc_before _ _ _ _ (by omega)]; with_reducible assumption) | (simp [go_sem, *]; done)); have n1 : w1.cell? ⟨w.heap.size, 1, none⟩ = some (.int .i64 f) := (hb.cells _ _ (by first | with_reducible assumption | omega | (simp; done) | (simp; omega))).trans (by first | with_reducible assumption | (simp; done) | (simp; with_reducible assumption) | (rw [cell_alloc_before _ _ _ _ (by omega)]; with_reducible assumption) | (simp [go_sem, *]; done)); (first | (have nx := Ext.trans hx hb; clear hx) | (have nx := Ext.trans (hx.alloc _) hb; clear hx) | (have nx := Ext.trans hx.drew hb; clear hx) | have nx := hb); clear hb; try clear hs; try clear g0; try clear g1; have hx := nx; clear nx; have hs := ns; clear ns; have g0 := n0; clear n0; have g1 := n1; clear n1) | (go_at_call 207; refine (HTR.out _).mono ?_; rintro rv w1 ⟨rfl, rfl⟩) | (go_at_call 57; refine (HPU.out _).mono ?_; rintro rv w1 ⟨rfl, hb⟩; have ns : w.heap.size < w1.heap.size := hb.lt (by first | with_reducible assumption | omega | (simp; done) | (simp; omega)); have n0 : w1.cell? ⟨w.heap.size, 0, none⟩ = some (.int .i64 e) := (hb.cells _ _ (by first | with_reducible assumption | omega | (simp; done) | (simp; omega))).trans (by first | with_reducible assumption | (simp; done) | (simp; with_reducible assumption) | (rw [cell_alloc_before _ _ _ _ (by omega)]; with_reducible assumption) | (simp [go_sem, *]; done)); have n1 : w1.cell? ⟨w.heap.size, 1, none⟩ = some (.int .i64 f) := (hb.cells _ _ (by first | with_reducible assumption | omega | (simp; done) | (simp; omega))).trans (by first | with_reducible assumption | (simp; done) | (simp; with_reducible assumption) | (rw [cell_alloc_before _ _ _ _ (by omega)]; with_reducible assumption) | (simp [go_sem, *]; done)); (first | (have nx := Ext.trans hx hb; clear hx) | (have nx := Ext.trans (hx.alloc _) hb; clear hx) | (have nx := Ext.trans hx.drew hb; clear hx) | have nx := hb); clear hb; try clear hs; try clear g0; try clear g1; have hx := nx; clear nx; have hs := ns; clear ns; have g0 := n0; clear n0; have g1 := n1; clear n1))
  go_ret2
  exact ⟨rfl, (by repeat (first | exact Ext.refl _ | with_reducible assumption | apply Ext.alloc | apply Ext.drew | apply Ext.drewN | (refine Ext.setRow ?_ (by first | (simp; done) | (simp; omega) | omega) _) | (refine Ext.setCell ?_ (by first | (simp; done) | (simp; omega) | omega) _) | (refine Ext.trans ?_ (by with_reducible assumption))))⟩

theorem pv_inf (e f : Int) (t : Bool) (w : World) : Calls Try.prog 195 #[fmt e f, .float .f32 (Ieee.single.word t Ieee.single.infRung)] w fun rv w' => rv = .returned (.tuple #[.int .i64 0, .bool false]) ∧ Ext w w' := by
  have hsz := fun w => sizeOf_inf t w
  have cv1 : ∀ w, (convert 111 112 (.float .f32 2139095040)).run Try.prog w = .ok (.float .f64 9218868437227405312) w := fun w =>
    run_convert_float_float w _ _ .f32 .f64 _ _ (by kernel_rfl) Try.underlying112 (by decide +kernel)
  have o1 : FloatKind.f64.format.order 9218868437227405312 4791830003522207744 = some .gt := by decide +kernel
  generalize Ieee.single.word t Ieee.single.infRung = x1 at *
  have HSZ := Lib.hid hsz; clear hsz
  go_enter Try.func195, Try.ntmps195
  go_wp2_with (go_at_call 169; refine (HSZ.out _).mono ?_; rintro rv w1 ⟨rfl, hb⟩; have ns : w.heap.size < w1.heap.size := hb.lt (by first | with_reducible assumption | omega | (simp; done) | (simp; omega)); have n0 : w1.cell? ⟨w.heap.size, 0, none⟩ = some (.int .i64 e) := (hb.cells _ _ (by first | with_reducible assumption | omega | (simp; done) | (simp; omega))).trans (by first | with_reducible assumption | (simp; done) | (simp; with_reducible assumption) | (rw [cell_alloc_before _ _ _ _ (by omega)]; with_reducible assumption) | (simp [go_sem, *]; done)); have n1 : w1.cell? ⟨w.heap.size, 1, none⟩ = some (.int .i64 f) := (hb.cells _ _ (by first | with_reducible assumption | omega | (simp; done) | (simp; omega))).trans (by first | with_reducible assumption | (simp; done) | (simp; with_reducible assumption) | (rw [cell_alloc_before _ _ _ _ (by omega)]; with_reducible assumption) | (simp [go_sem, *]; done)); (first | (have nx := Ext.trans hx hb; clear hx) | (have nx := Ext.trans (hx.alloc _) hb; clear hx) | (have nx := Ext.trans hx.drew hb; clear hx) | have nx := hb); clear hb; try clear hs; try clear g0; try clear g1; have hx := nx; clear nx; have hs := ns; clear ns; have g0 := n0; clear n0; have g1 := n1; clear n1)
  go_ret2
  exact ⟨rfl, (by repeat (first | exact Ext.refl _ | with_reducible assumption | apply Ext.alloc | apply Ext.drew | apply Ext.drewN | (refine Ext.setRow ?_ (by first | (simp; done) | (simp; omega) | omega) _) | (refine Ext.setCell ?_ (by first | (simp; done) | (simp; omega) | omega) _) | (refine Ext.trans ?_ (by with_reducible assumption))))⟩

set_option maxHeartbeats 3200000 in
theorem near2G (e f : Int) (x0 y0 r0 x1 y1 r1 : Nat) (gl cap : Nat) (h0 : floatBits .add .f32 0 x0 = some y0) (N0 : ∀ w, Calls Try.prog 108 #[fmt e f, .float .f32 y0] w fun rv w' => rv = .returned (.float .f32 r0) ∧ Ext w w') (h1 : floatBits .add .f32 r0 x1 = some y1) (N1 : ∀ w, Calls Try.prog 108 #[fmt e f, .float .f32 y1] w fun rv w' => rv = .returned (.float .f32 r1) ∧ Ext w w') (w : World) (c0 : w.cell? ⟨gl, 0, none⟩ = some (.float .f32 x0)) (c1 : w.cell? ⟨gl, 1, none⟩ = some (.float .f32 x1)) (hgl : gl < w.heap.size) : Calls Try.prog 179 #[fmt e f, .slice (some ⟨gl, 0, none⟩) 2 cap] w fun rv w' => rv = .returned (.float .f32 r1) ∧ Ext w w' := by
  have A0 : ∀ (t : TypeId) (w : World), (binOp .add t (.float .f32 0) (.float .f32 x0)).run Try.prog w = .ok (.float .f32 y0) w := fun t w => run_float_arith w .add t .f32 _ _ _ h0
  replace N0 := Lib.hid N0
  clear h0
  have A1 : ∀ (t : TypeId) (w : World), (binOp .add t (.float .f32 r0) (.float .f32 x1)).run Try.prog w = .ok (.float .f32 y1) w := fun t w => run_float_arith w .add t .f32 _ _ _ h1
  replace N1 := Lib.hid N1
  clear h1
  go_enter Try.func179, Try.ntmps179
  go_wp2_with fail
  refine wp_loop_rounds 3 ?_
  rw [rounds_succ]
  go_wp2_with (go_at_call 108; (with_reducible refine (N0.out _).mono ?_); rintro rv w1 ⟨rfl, hb⟩; have ns : max w.heap.size gl < w1.heap.size := hb.lt (by first | with_reducible assumption | omega | (simp; done) | (simp; omega)); have n0 : w1.cell? ⟨w.heap.size, 0, none⟩ = some (.int .i64 e) := (hb.cells _ _ (by first | with_reducible assumption | omega | (simp; done) | (simp; omega))).trans (by first | with_reducible assumption | (simp; done) | (simp; with_reducible assumption) | (rw [cell_alloc_before _ _ _ _ (by omega)]; with_reducible assumption) | (simp [go_sem, *]; done)); have n1 : w1.cell? ⟨w.heap.size, 1, none⟩ = some (.int .i64 f) := (hb.cells _ _ (by first | with_reducible assumption | omega | (simp; done) | (simp; omega))).trans (by first | with_reducible assumption | (simp; done) | (simp; with_reducible assumption) | (rw [cell_alloc_before _ _ _ _ (by omega)]; with_reducible assumption) | (simp [go_sem, *]; done)); have n2 : w1.cell? ⟨gl, 0, none⟩ = some (.float .f32 x0) := (hb.cells _ _ (by first | with_reducible assumption | omega | (simp; done) | (simp; omega))).trans (by first | with_reducible assumption | (simp; done) | (simp; with_reducible assumption) | (rw [cell_alloc_before _ _ _ _ (by omega)]; with_reducible assumption) | (simp [go_sem, *]; done)); have n3 : w1.cell? ⟨gl, 1, none⟩ = some (.float .f32 x1) := (hb.cells _ _ (by first | with_reducible assumption | omega | (simp; done) | (simp; omega))).trans (by first | with_reducible assumption | (simp; done) | (simp; with_reducible assumption) | (rw [cell_alloc_before _ _ _ _ (by omega)]; with_reducible assumption) | (simp [go_sem, *]; done)); (first | (have nx := Ext.trans hx hb; clear hx) | (have nx := Ext.trans (hx.alloc _) hb; clear hx) | (have nx := Ext.trans hx.drew hb; clear hx) | have nx := hb); clear hb; try clear hs; try clear g0; try clear g1; try clear g2; try clear g3; have hx := nx; clear nx; have hs := ns; clear ns; have g0 := n0; clear n0; have g1 := n1; clear n1; have g2 := n2; clear n2; have g3 := n3; clear n3)
  rw [rounds_succ]
  go_wp2_with (go_at_call 108; (with_reducible refine (N1.out _).mono ?_); rintro rv w1 ⟨rfl, hb⟩; have ns : max w.heap.size gl < w1.heap.size := hb.lt (by first | with_reducible assumption | omega | (simp; done) | (simp; omega)); have n0 : w1.cell? ⟨w.heap.size, 0, none⟩ = some (.int .i64 e) := (hb.cells _ _ (by first | with_reducible assumption | omega | (simp; done) | (simp; omega))).trans (by first | with_reducible assumption | (simp; done) | (simp; with_reducible assumption) | (rw [cell_alloc_before _ _ _ _ (by omega)]; with_reducible assumption) | (simp [go_sem, *]; done)); have n1 : w1.cell? ⟨w.heap.size, 1, none⟩ = some (.int .i64 f) := (hb.cells _ _ (by first | with_reducible assumption | omega | (simp; done) | (simp; omega))).trans (by first | with_reducible assumption | (simp; done) | (simp; with_reducible assumption) | (rw [cell_alloc_before _ _ _ _ (by omega)]; with_reducible assumption) | (simp [go_sem, *]; done)); have n2 : w1.cell? ⟨gl, 0, none⟩ = some (.float .f32 x0) := (hb.cells _ _ (by first | with_reducible assumption | omega | (simp; done) | (simp; omega))).trans (by first | with_reducible assumption | (simp; done) | (simp; with_reducible assumption) | (rw [cell_alloc_before _ _ _ _ (by omega)]; with_reducible assumption) | (simp [go_sem, *]; done)); have n3 : w1.cell? ⟨gl, 1, none⟩ = some (.float .f32 x1) := (hb.cells _ _ (by first | with_reducible assumption | omega | (simp; done) | (simp; omega))).trans (by first | with_reducible assumption | (simp; done) | (simp; with_reducible assumption) | (rw [cell_alloc_before _ _ _ _ (by omega)]; with_reducible assumption) | (simp [go_sem, *]; done)); (first | (have nx := Ext.trans hx hb; clear hx) | (have nx := Ext.trans (hx.alloc _) hb; clear hx) | (have nx := Ext.trans hx.drew hb; clear hx) | have nx := hb); clear hb; try clear hs; try clear g0; try clear g1; try clear g2; try clear g3; have hx := nx; clear nx; have hs := ns; clear ns; have g0 := n0; clear n0; have g1 := n1; clear n1; have g2 := n2; clear n2; have g3 := n3; clear n3)
  rw [rounds_succ]
  go_wp2_with fail
  go_ret
  exact ⟨rfl, (by repeat (first | exact Ext.refl _ | with_reducible assumption | apply Ext.alloc | apply Ext.drew | apply Ext.drewN | (refine Ext.setRow ?_ (by first | (simp; done) | (simp; omega) | omega) _) | (refine Ext.setCell ?_ (by first | (simp; done) | (simp; omega) | omega) _) | (refine Ext.trans ?_ (by with_reducible assumption))))⟩
end Go.Proofs.Ytcpamgmaijjhoaa

namespace Go.Proofs.Ytcpamgmaijjhoaa
open Go Go.RowKit
set_option linter.unusedSimpArgs false
set_option linter.unusedVariables false
set_option maxRecDepth 100000

/-- s is what u units are rounded to, without the sign. -/
def NSp (e f u s : Int) : Prop := IsRnd f (grV e f) (u.natAbs : Int) 1 0 false s

noncomputable def nsP (e f u : Int) : Int := Classical.epsilon (fun s => NSp e f u s)

/-- A pattern with the sign of u, and 0 for both zeros. -/
def exV (e f u s : Int) : Int := if s = 0 then 0 else if u < 0 then pw (e + f) + s else s

/-- The near sum whose exact one is u units. -/
noncomputable def nsV (e f u : Int) : Int := exV e f u (nsP e f u)

noncomputable def nsB (e f u : Int) : Bool := decide (nsP e f u ≤ grV e f)

noncomputable def nsR (e f u : Int) : Int := if nsB e f u = true then nsV e f u else 0

theorem nsP_ex {e f u : Int} (hg : goodB e f = true) : NSp e f u (nsP e f u) := by
  have h : ∃ s, NSp e f u s := by
    obtain ⟨p, hp⟩ := belowq_ex f (u.natAbs : Int) 1 (good_iff.1 hg).2.2.1 (by omega) (grV e f).toNat
    rw [Int.toNat_of_nonneg (by have := (gr_bd2 hg).1; omega)] at hp
    exact ⟨_, p, hp, rfl⟩
  exact Classical.epsilon_spec h

theorem nsP_one {e f u s : Int} (hg : goodB e f = true) (h : NSp e f u s) : s = nsP e f u := rnd_one (good_iff.1 hg).2.2.1 (by decide) h (nsP_ex hg)

theorem nsP_bd {e f u : Int} (hg : goodB e f = true) : 0 ≤ nsP e f u ∧ nsP e f u ≤ grV e f + 1 := rnd_top (nsP_ex hg)

theorem mg_zero (f : Int) : mgV f 0 = 0 := by
  unfold mgV
  rw [if_neg (by simp)]; simp

theorem rnd_self {f g D p : Int} (hf : 1 ≤ f) (hD : 0 < D) (p0 : 0 ≤ p) (p1 : p ≤ g) : IsRnd f g (mgV f p * D) D 0 false p := by
  obtain ⟨a1, a2, a3, a4⟩ := mg_st hf p0
  have := Int.mul_lt_mul_of_pos_right (show mgV f p < mgV f (p + 1) by omega) hD
  refine ⟨p, ⟨p0, p1, Int.le_refl _, Or.inr this⟩, ?_⟩
  unfold rndP
  rw [if_pos (by omega)]

theorem nsP_val {e f u s : Int} (hg : goodB e f = true) (s0 : 0 ≤ s) (s1 : s ≤ grV e f) (h : (u.natAbs : Int) = mgV f s) : nsP e f u = s := by
  refine (nsP_one hg ?_).symm
  have := rnd_self (g := grV e f) (D := 1) (good_iff.1 hg).2.2.1 (by decide) s0 s1
  unfold NSp
  rw [h]
  rwa [Int.mul_one] at this

theorem nsP_zero {e f u : Int} (hg : goodB e f = true) : nsP e f u = 0 ↔ u = 0 := by
  constructor
  · intro h
    have h2 : NSp e f u (nsP e f u) := nsP_ex hg
    rw [h] at h2
    obtain ⟨p, ⟨p0, p1, p2, p3⟩, hr⟩ := h2
    have hp : p = 0 := by
      unfold rndP at hr
      split at hr
      · omega
      · split at hr <;> omega
    subst hp
    have hf := (good_iff.1 hg).2.2.1
    obtain ⟨a1, a2, a3, a4⟩ := mg_st hf (Int.le_refl 0)
    have g0 := (gr_bd2 hg).1
    have c := pw_pos f
    have e1 : stV f 0 = 1 := by
      unfold stV
      rw [show (0 : Int) / pw f = 0 by simp]; decide
    rw [Int.zero_add] at a4 p3
    rw [mg_zero] at a4
    rcases p3 with p3 | p3
    · omega
    · rw [a4, e1] at p3
      omega
  · intro h
    subst h
    exact nsP_val hg (Int.le_refl 0) (by have := (gr_bd2 hg).1; omega) (by rw [mg_zero]; rfl)

theorem kind_lt3 {e f p : Int} (hp : patB e f p = true) : decide (kindV e f p < 3) = finB e f p := by
  unfold finB kindV
  rw [hp, Bool.true_and]
  by_cases h : p % pw (e + f) / pw f = pw e - 1
  · rw [if_pos (by simpa using h), decide_eq_false (show ¬ (p % pw (e + f) / pw f < pw e - 1) by omega)]
    apply decide_eq_false
    split <;> omega
  · rw [if_neg (by simpa using h)]
    obtain ⟨hg, p0, p1⟩ := pat_iff.1 hp
    obtain ⟨h1, h2, h3, h4⟩ := good_iff.1 hg
    obtain ⟨⟨a1, a2⟩, ⟨b1, b2⟩, ⟨c1, c2⟩, hmul⟩ := pw_facts h1 h2 h3 h4
    have r1 := Int.emod_lt_of_pos p (show 0 < pw (e + f) by omega)
    have : p % pw (e + f) / pw f < pw e := Int.ediv_lt_of_lt_mul (by omega) (by rw [← hmul]; exact r1)
    rw [decide_eq_true (show p % pw (e + f) / pw f < pw e - 1 by omega)]
    apply decide_eq_true
    split
    · omega
    · split <;> omega

theorem ns_pat {e f u : Int} (hg : goodB e f = true) : patB e f (nsV e f u) = true ∧ finB e f (nsV e f u) = nsB e f u := by
  obtain ⟨s0, s1⟩ := nsP_bd (u := u) hg
  obtain ⟨q1, q2, q3, q4⟩ := s_parts hg s0 s1
  have pp := pw_pos (e + f)
  have lt : nsP e f u < pw (e + f) := by
    have := Int.emod_lt_of_pos (nsP e f u) (show 0 < pw (e + f) by omega)
    omega
  have hm : nsV e f u % pw (e + f) = nsP e f u := by
    unfold nsV exV
    by_cases z : nsP e f u = 0
    · rw [if_pos z, z]; simp
    · rw [if_neg z]
      split
      · rw [Int.add_comm, Int.add_emod_right]; exact q3
      · exact q3
  have hp : patB e f (nsV e f u) = true := by
    refine pat_iff.2 ⟨hg, ?_, ?_⟩ <;> (unfold nsV exV; split; omega; split <;> omega)
  refine ⟨hp, ?_⟩
  unfold finB nsB
  rw [hp, Bool.true_and, hm, decide_eq_decide]
  exact q4

theorem mag_mod {e f p : Int} (hp : patB e f p = true) : magV e f p = mgV f (p % pw (e + f)) := by
  obtain ⟨hg, p0, p1⟩ := pat_iff.1 hp
  obtain ⟨h1, h2, h3, h4⟩ := good_iff.1 hg
  have hd : pw (e + f) = pw e * pw f := pw_add e f (by omega) (by omega)
  have hm : p % pw (e + f) % pw f = p % pw f := by
    rw [hd]
    exact Int.emod_emod_of_dvd p ⟨pw e, Int.mul_comm _ _⟩
  unfold magV mgV
  rw [hm]

/-- The size of a finite pattern. -/
theorem fin_size {e f p : Int} (h : finB e f p = true) : goodB e f = true ∧ 0 ≤ p % pw (e + f) ∧ p % pw (e + f) ≤ grV e f ∧ ((unitsV e f p).natAbs : Int) = mgV f (p % pw (e + f)) := by
  obtain ⟨hp, hx⟩ := fin_pat h
  obtain ⟨hg, p0, p1⟩ := pat_iff.1 hp
  have pp := pw_pos (e + f)
  have r0 := Int.emod_nonneg p (show pw (e + f) ≠ 0 by omega)
  have c := pw_pos f
  have le : p % pw (e + f) ≤ grV e f := by
    rw [Int.ediv_lt_iff_lt_mul (by omega)] at hx
    unfold grV
    omega
  refine ⟨hg, r0, le, ?_⟩
  have hb := mag_bd e f p hp
  rw [← mag_mod hp]
  unfold unitsV
  split <;> omega

theorem ns_small {e f a b : Int} (ha : finB e f a = true) (hb : finB e f b = true) : -4398046511104 ≤ unitsV e f a + unitsV e f b ∧ unitsV e f a + unitsV e f b ≤ 4398046511104 ∧ -2199023255552 < unitsV e f a ∧ unitsV e f a < 2199023255552 ∧ -2199023255552 < unitsV e f b ∧ unitsV e f b < 2199023255552 := by
  obtain ⟨hg, a0, a1, a2⟩ := fin_size ha
  obtain ⟨_, b0, b1, b2⟩ := fin_size hb
  have := mg_bd hg a0 a1
  have := mg_bd hg b0 b1
  omega

/-- The single sum of two values is rounded as their sum is. -/
theorem ns_single {e f a b : Int} (ha : finB e f a = true) (hb : finB e f b = true) : ∃ V : Nat, Ok Ieee.single V ∧ V < 2 ^ 191 ∧ cw (unitsV e f a + unitsV e f b) = sw Ieee.single (decide (unitsV e f a + unitsV e f b < 0)) V ∧ ∀ s, IsRnd f (grV e f) V (pw 149) 0 false s → s = nsP e f (unitsV e f a + unitsV e f b) := by
  obtain ⟨hg, a0, a1, a2⟩ := fin_size ha
  obtain ⟨_, b0, b1, b2⟩ := fin_size hb
  rcases Nat.le_total (unitsV e f b).natAbs (unitsV e f a).natAbs with h | h
  · obtain ⟨V, v1, v2, v3, _, _, v4⟩ := sum_single (X := (unitsV e f a + unitsV e f b).natAbs) hg a0 a1 b0 b1 a2.symm b2.symm h (by omega)
    exact ⟨V, v1, v2, cw_same v3, fun s hs => nsP_one hg (v4 s hs)⟩
  · obtain ⟨V, v1, v2, v3, _, _, v4⟩ := sum_single (X := (unitsV e f a + unitsV e f b).natAbs) hg b0 b1 a0 a1 b2.symm a2.symm h (by omega)
    exact ⟨V, v1, v2, cw_same v3, fun s hs => nsP_one hg (v4 s hs)⟩

theorem ok_units {e f a : Int} (ha : finB e f a = true) : Ok Ieee.single ((unitsV e f a).natAbs * 2 ^ 149) := by
  obtain ⟨hg, a0, a1, a2⟩ := fin_size ha
  exact ok_abs (mgN_ok hg a0 a1).1 a2

theorem nearest_val (e f a : Int) (ha : finB e f a = true) (w : World) : Calls Try.prog 108 #[fmt e f, .float .f32 (cw (unitsV e f a))] w fun rv w' => rv = .returned (.float .f32 (cw (unitsV e f a))) ∧ Ext w w' := by
  obtain ⟨hg, a0, a1, a2⟩ := fin_size ha
  obtain ⟨ok, lt⟩ := mgN_ok hg a0 a1
  have hf := (good_iff.1 hg).2.2.1
  have hm := mgN_cast f (a % pw (e + f)) (mg_bd hg a0 a1).1
  rw [cw_mg a2]
  refine (nearest_sw e f _ _ hg ok (Nat.lt_trans lt (by decide)) w).mono ?_
  rintro rv w' ⟨s, rfl, hs, _, hb⟩
  rw [hm] at hs
  obtain rfl := rnd_one hf (by have := pw_pos 149; omega) hs (rnd_self hf (by have := pw_pos 149; omega) a0 a1)
  refine ⟨?_, hb⟩
  unfold nrW
  rw [if_pos a1]

theorem nearest_sum (e f a b : Int) (ha : finB e f a = true) (hb2 : finB e f b = true) (w : World) : Calls Try.prog 108 #[fmt e f, .float .f32 (cw (unitsV e f a + unitsV e f b))] w fun rv w' => rv = .returned (.float .f32 (nrW e f (decide (unitsV e f a + unitsV e f b < 0)) (nsP e f (unitsV e f a + unitsV e f b)))) ∧ Ext w w' := by
  obtain ⟨hg, _⟩ := fin_size ha
  obtain ⟨V, v1, v2, v3, v4⟩ := ns_single ha hb2
  rw [v3]
  refine (nearest_sw e f _ V hg v1 v2 w).mono ?_
  rintro rv w' ⟨s, rfl, hs, _, hb⟩
  rw [v4 s hs]
  exact ⟨rfl, hb⟩

theorem pv_ns (e f u : Int) (hg : goodB e f = true) (w : World) : Calls Try.prog 195 #[fmt e f, .float .f32 (nrW e f (decide (u < 0)) (nsP e f u))] w fun rv w' => rv = .returned (.tuple #[.int .i64 (nsR e f u), .bool (nsB e f u)]) ∧ Ext w w' := by
  obtain ⟨s0, s1⟩ := nsP_bd (u := u) hg
  by_cases g : nsP e f u ≤ grV e f
  · have hb := mg_bd hg s0 g
    have e1 : psV e f (sv (decide (u < 0)) (mgV f (nsP e f u)).toNat) (nsP e f u) = nsR e f u := by
      unfold nsR nsV nsB psV exV
      rw [decide_eq_true g, if_pos rfl]
      by_cases z : nsP e f u = 0
      · rw [if_pos z, z, mg_zero]
        rw [if_neg]
        unfold sv
        split <;> simp
      · rw [if_neg z]
        have m1 : 0 < mgV f (nsP e f u) := by
          have := mg_mono f 1 (nsP e f u) (good_iff.1 hg).2.2.1 (by decide) (by omega)
          have c := pw_pos f
          have c2 := (pw_facts (good_iff.1 hg).1 (good_iff.1 hg).2.1 (good_iff.1 hg).2.2.1 (good_iff.1 hg).2.2.2).2.2.1.1
          rw [mg_small f 1 (by decide) (by omega)] at this
          omega
        by_cases n : u < 0
        · rw [if_pos n, decide_eq_true n]
          rw [if_pos]
          unfold sv
          rw [if_pos rfl]
          omega
        · rw [if_neg n, decide_eq_false n]
          rw [if_neg]
          unfold sv
          rw [if_neg (by decide)]
          omega
    have e2 : nsB e f u = true := decide_eq_true g
    unfold nrW
    rw [if_pos g]
    have := pv_fin e f (nsP e f u) (decide (u < 0)) hg s0 g w
    rw [e1] at this
    rw [e2]
    exact this
  · have e2 : nsB e f u = false := decide_eq_false g
    have e3 : nsR e f u = 0 := by unfold nsR; rw [e2]; rfl
    unfold nrW
    rw [if_neg g, e2, e3]
    exact pv_inf e f (decide (u < 0)) w
end Go.Proofs.Ytcpamgmaijjhoaa

namespace Go.Proofs.Ytcpamgmaijjhoaa
open Go Go.RowKit
set_option linter.unusedSimpArgs false
set_option linter.unusedVariables false
set_option maxRecDepth 100000

theorem near_two (e f a b : Int) (ha : finB e f a = true) (hb2 : finB e f b = true) (gl cap : Nat) (w : World) (c0 : w.cell? ⟨gl, 0, none⟩ = some (.float .f32 (cw (unitsV e f a)))) (c1 : w.cell? ⟨gl, 1, none⟩ = some (.float .f32 (cw (unitsV e f b)))) (hgl : gl < w.heap.size) :
    Calls Try.prog 179 #[fmt e f, .slice (some ⟨gl, 0, none⟩) 2 cap] w fun rv w' => rv = .returned (.float .f32 (nrW e f (decide (((unitsV e f a) + (unitsV e f b)) < 0)) (nsP e f ((unitsV e f a) + (unitsV e f b))))) ∧ Ext w w' :=
  near2G e f _ _ _ _ _ _ gl cap (add_zero_cw (ok_units ha)) (fun w => nearest_val e f a ha w) (add_cw (ok_units ha) (ok_units hb2)) (fun w => nearest_sum e f a b ha hb2 w) w c0 c1 hgl

set_option maxHeartbeats 1600000 in
theorem iNearSum_yes (e f a b : Int) (hg : (finB e f a && finB e f b) = true) (w : World) : Calls Try.prog 156 #[fmt e f, .int .i64 a, .int .i64 b] w fun rv w' => rv = .returned (.tuple #[.int .i64 (nsR e f ((unitsV e f a) + (unitsV e f b))), .bool (nsB e f ((unitsV e f a) + (unitsV e f b)))]) ∧ Ext w w' := by
  obtain ⟨ha, hb2⟩ : finB e f a = true ∧ finB e f b = true := by simpa using hg
  obtain ⟨hgg, _⟩ := fin_size ha
  have hap := (fin_pat ha).1
  have hbp := (fin_pat hb2).1
  obtain ⟨sm1, sm2, sm3, sm4, sm5, sm6⟩ := ns_small ha hb2
  have PVA := Lib.hid (fun w => pv_ns e f ((unitsV e f a) + (unitsV e f b)) hgg w)
  have NEA := Lib.hid (fun gl cap w c0 c1 hgl => near_two e f a b ha hb2 gl cap w c0 c1 hgl)
  generalize nrW e f (decide (((unitsV e f a) + (unitsV e f b)) < 0)) (nsP e f ((unitsV e f a) + (unitsV e f b))) = x9 at *
  go_enter Try.func156, Try.ntmps156
  go_wp2_with (go_at_call 105; (with_reducible refine (valuesOf2 e f a b (w.heap.size + 1) ha hb2 _ (by first | with_reducible assumption | (simp; done) | (simp [go_sem]; done) | (simp [go_sem, *]; done)) (by first | with_reducible assumption | (simp; done) | (simp [go_sem]; done) | (simp [go_sem, *]; done)) (by simp; try omega)).mono ?_); rintro rv w1 ⟨gl, cap, rfl, q1, q2, c0, c1, hb⟩; rw [int_cw] at c0 c1; have c0 := c0; have c1 := c1; have ns : w.heap.size < w1.heap.size := hb.lt (by first | (simp; done) | (simp; omega)); have g0 : w1.cell? ⟨w.heap.size, 0, none⟩ = some (.int .i64 e) := (hb.cells _ _ (by first | (simp; done) | (simp; omega))).trans (by first | (simp; done) | (simp [go_sem, *]; done)); have g1 : w1.cell? ⟨w.heap.size, 1, none⟩ = some (.int .i64 f) := (hb.cells _ _ (by first | (simp; done) | (simp; omega))).trans (by first | (simp; done) | (simp [go_sem, *]; done)); have hx : Ext w w1 := Ext.trans (by repeat (first | exact Ext.refl _ | with_reducible assumption | apply Ext.alloc | apply Ext.drew | apply Ext.drewN | (refine Ext.setRow ?_ (by first | (simp; done) | (simp; omega) | omega) _) | (refine Ext.setCell ?_ (by first | (simp; done) | (simp; omega) | omega) _) | (refine Ext.trans ?_ (by with_reducible assumption)))) hb; clear hb)
  have hs : max w.heap.size gl < w1.heap.size := by omega
  go_region_held3 (fun w' => w'.cell? ⟨w.heap.size, 0, none⟩ = some (.int .i64 e) ∧ w'.cell? ⟨w.heap.size, 1, none⟩ = some (.int .i64 f) ∧ w'.cell? ⟨gl, 0, none⟩ = some (.float .f32 (cw (unitsV e f a))) ∧ w'.cell? ⟨gl, 1, none⟩ = some (.float .f32 (cw (unitsV e f b))) ∧ max w.heap.size gl < w'.heap.size) ((refine ⟨?_, ?_, ?_, ?_, ?_⟩ <;> first | with_reducible assumption | ((repeat first | rw [cell_set_far _ _ _ _ _ _ (by omega)] | rw [cell_alloc_before _ _ _ _ (by omega)] | rw [cell_alloc_drew _ _ _ _ (by omega)] | rw [cell_drew]); with_reducible assumption) | ((rw [cell_setRow_far _ _ _ _ _ (by omega)]); with_reducible assumption) | ((rw [setRow_size]); with_reducible assumption) | (simp; done) | (simp [World.setCell]; first | done | omega) | (simp [go_sem, World.cell?_alloc_past, World.cell?_setCell_far, *]; done))) ((first | (go_at_call 179; refine (NEA.out gl _ _ (by first | with_reducible assumption | (simp; done) | (simp [go_sem]; done) | (simp [go_sem, *]; done)) (by first | with_reducible assumption | (simp; done) | (simp [go_sem]; done) | (simp [go_sem, *]; done)) (by first | omega | (simp; omega))).mono ?_; rintro rv w1 ⟨rfl, hb⟩; have ns : max w.heap.size gl < w1.heap.size := hb.lt (by first | with_reducible assumption | omega | (simp; done) | (simp; omega)); have n0 : w1.cell? ⟨w.heap.size, 0, none⟩ = some (.int .i64 e) := (hb.cells _ _ (by first | with_reducible assumption | omega | (simp; done) | (simp; omega))).trans (by first | with_reducible assumption | (simp; done) | (simp; with_reducible assumption) | (rw [cell_alloc_before _ _ _ _ (by omega)]; with_reducible assumption) | (simp [go_sem, *]; done)); have n1 : w1.cell? ⟨w.heap.size, 1, none⟩ = some (.int .i64 f) := (hb.cells _ _ (by first | with_reducible assumption | omega | (simp; done) | (simp; omega))).trans (by first | with_reducible assumption | (simp; done) | (simp; with_reducible assumption) | (rw [cell_alloc_before _ _ _ _ (by omega)]; with_reducible assumption) | (simp [go_sem, *]; done)); have n2 : w1.cell? ⟨gl, 0, none⟩ = some (.float .f32 (cw (unitsV e f a))) := (hb.cells _ _ (by first | with_reducible assumption | omega | (simp; done) | (simp; omega))).trans (by first | with_reducible assumption | (simp; done) | (simp; with_reducible assumption) | (rw [cell_alloc_before _ _ _ _ (by omega)]; with_reducible assumption) | (simp [go_sem, *]; done)); have n3 : w1.cell? ⟨gl, 1, none⟩ = some (.float .f32 (cw (unitsV e f b))) := (hb.cells _ _ (by first | with_reducible assumption | omega | (simp; done) | (simp; omega))).trans (by first | with_reducible assumption | (simp; done) | (simp; with_reducible assumption) | (rw [cell_alloc_before _ _ _ _ (by omega)]; with_reducible assumption) | (simp [go_sem, *]; done)); (first | (have nx := Ext.trans hx hb; clear hx) | (have nx := Ext.trans (hx.alloc _) hb; clear hx) | (have nx := Ext.trans hx.drew hb; clear hx) | have nx := hb); clear hb; try clear hs; try clear g0; try clear g1; try clear g2; try clear g3; have hx := nx; clear nx; have hs := ns; clear ns; have g0 := n0; clear n0; have g1 := n1; clear n1; have g2 := n2; clear n2; have g3 := n3; clear n3) | (go_at_call 195; refine (PVA.out _).mono ?_; rintro rv w1 ⟨rfl, hb⟩; have ns : max w.heap.size gl < w1.heap.size := hb.lt (by first | with_reducible assumption | omega | (simp; done) | (simp; omega)); have n0 : w1.cell? ⟨w.heap.size, 0, none⟩ = some (.int .i64 e) := (hb.cells _ _ (by first | with_reducible assumption | omega | (simp; done) | (simp; omega))).trans (by first | with_reducible assumption | (simp; done) | (simp; with_reducible assumption) | (rw [cell_alloc_before _ _ _ _ (by omega)]; with_reducible assumption) | (simp [go_sem, *]; done)); have n1 : w1.cell? ⟨w.heap.size, 1, none⟩ = some (.int .i64 f) := (hb.cells _ _ (by first | with_reducible assumption | omega | (simp; done) | (simp; omega))).trans (by first | with_reducible assumption | (simp; done) | (simp; with_reducible assumption) | (rw [cell_alloc_before _ _ _ _ (by omega)]; with_reducible assumption) | (simp [go_sem, *]; done)); have n2 : w1.cell? ⟨gl, 0, none⟩ = some (.float .f32 (cw (unitsV e f a))) := (hb.cells _ _ (by first | with_reducible assumption | omega | (simp; done) | (simp; omega))).trans (by first | with_reducible assumption | (simp; done) | (simp; with_reducible assumption) | (rw [cell_alloc_before _ _ _ _ (by omega)]; with_reducible assumption) | (simp [go_sem, *]; done)); have n3 : w1.cell? ⟨gl, 1, none⟩ = some (.float .f32 (cw (unitsV e f b))) := (hb.cells _ _ (by first | with_reducible assumption | omega | (simp; done) | (simp; omega))).trans (by first | with_reducible assumption | (simp; done) | (simp; with_reducible assumption) | (rw [cell_alloc_before _ _ _ _ (by omega)]; with_reducible assumption) | (simp [go_sem, *]; done)); (first | (have nx := Ext.trans hx hb; clear hx) | (have nx := Ext.trans (hx.alloc _) hb; clear hx) | (have nx := Ext.trans hx.drew hb; clear hx) | have nx := hb); clear hb; try clear hs; try clear g0; try clear g1; try clear g2; try clear g3; have hx := nx; clear nx; have hs := ns; clear ns; have g0 := n0; clear n0; have g1 := n1; clear n1; have g2 := n2; clear n2; have g3 := n3; clear n3)))
  go_wp2_with fail
  go_ret2
  exact ⟨rfl, (by repeat (first | exact Ext.refl _ | with_reducible assumption | apply Ext.alloc | apply Ext.drew | apply Ext.drewN | (refine Ext.setRow ?_ (by first | (simp; done) | (simp; omega) | omega) _) | (refine Ext.setCell ?_ (by first | (simp; done) | (simp; omega) | omega) _) | (refine Ext.trans ?_ (by with_reducible assumption))))⟩
end Go.Proofs.Ytcpamgmaijjhoaa

namespace Go.Proofs.Ytcpamgmaijjhoaa
open Go Go.RowKit
set_option linter.unusedSimpArgs false
set_option linter.unusedVariables false
set_option maxRecDepth 100000

/-- The next even sum, and whether it is finite. -/
noncomputable def evS (e f b a : Int) : Int := nsV e f (unitsV e f a + unitsV e f b)

noncomputable def evO (e f b a : Int) : Bool := nsB e f (unitsV e f a + unitsV e f b)

/-- The pattern behind so many steps, and whether all sums on the way are finite. -/
noncomputable def evI (e f b a : Int) : Nat → Int
  | 0 => a
  | k + 1 => evS e f b (evI e f b a k)

noncomputable def evG (e f b a : Int) : Nat → Bool
  | 0 => true
  | k + 1 => evG e f b a k && evO e f b (evI e f b a k)

theorem evG_succ {e f b a : Int} {k : Nat} : evG e f b a (k + 1) = true ↔ evG e f b a k = true ∧ evO e f b (evI e f b a k) = true := by
  show (evG e f b a k && evO e f b (evI e f b a k)) = true ↔ _
  rw [Bool.and_eq_true]

theorem evG_le {e f b a : Int} {k n : Nat} (h : k ≤ n) (hn : evG e f b a n = true) : evG e f b a k = true := by
  induction n with
  | zero => rwa [show k = 0 by omega]
  | succ n ih =>
    by_cases hk : k = n + 1
    · rwa [hk]
    · exact ih (by omega) (evG_succ.1 hn).1

theorem ev_fin {e f b a : Int} {k : Nat} (hg : goodB e f = true) (ha : finB e f a = true) (h : evG e f b a k = true) : finB e f (evI e f b a k) = true := by
  cases k with
  | zero => exact ha
  | succ k =>
    have := (evG_succ.1 h).2
    unfold evO at this
    show finB e f (nsV e f _) = true
    rw [(ns_pat hg).2]
    exact this

theorem rnd_even {f g X D : Int} {neg : Bool} {s : Int} (h : IsRnd f g X D 0 neg s) : IsRnd f g X D 0 false s := by
  obtain ⟨p, hp, rfl⟩ := h
  refine ⟨p, hp, ?_⟩
  unfold rndP upR
  simp

theorem ev_round {e f u s : Int} (hg : goodB e f = true) (h : RndD e f (u.natAbs : Int) (unV e f - unV e f) 0 (decide (u < 0)) s) : sgP e f u s = nsV e f u := by
  have h1 := rnd_even h
  rw [Int.sub_self] at h1
  have h2 : NSp e f u (nsP e f u) := nsP_ex hg
  unfold NSp at h2
  have h3 : IsRnd f (grV e f) ((u.natAbs : Int) * pw 0) 1 0 false (nsP e f u) := by rwa [show pw 0 = 1 from rfl, Int.mul_one]
  have h4 := rnd_whole (e := e) (by decide) h3
  have hs : s = nsP e f u := rnd_one (good_iff.1 hg).2.2.1 (by have := pw_pos 149; omega) h1 h4
  rw [hs]
  unfold nsV exV sgP
  by_cases hz : nsP e f u = 0
  · have := (nsP_zero hg).1 hz
    rw [if_neg (by omega), if_pos hz, hz]
  · rw [if_neg hz]

set_option maxHeartbeats 3200000 in
theorem rnSum_any (e f a b : Int) (ha : finB e f a = true) (hb2 : finB e f b = true) (w : World) : Calls Try.prog 153 #[fmt e f, .int .i64 a, .int .i64 b] w fun rv w' => rv = .returned (two (odV (unitsV e f a + unitsV e f b)) (shE (unitsV e f a + unitsV e f b) (unV e f))) ∧ Ext w w' := by
  obtain ⟨s0, s1, s2, s3, s4, s5⟩ := ns_small ha hb2
  have hg := (pat_iff.1 (fin_pat ha).1).1
  obtain ⟨u1, u2, u3, u4⟩ := un_bd hg
  have UA := Lib.hid (fun w => fmUnits_any e f a (fin_pat ha).1 w)
  have UB := Lib.hid (fun w => fmUnits_any e f b (fin_pat hb2).1 w)
  have UN := Lib.hid (fun w => rdUnit_any e f hg w)
  have SH := Lib.hid (fun w => rdShort_any (unitsV e f a + unitsV e f b) (unV e f) (by omega) (by omega) (by omega) (by omega) w)
  have k1 : IntKind.i64.wrap (unitsV e f a + unitsV e f b) = (unitsV e f a + unitsV e f b) := IntWalk.i64_in _ (by omega)
  generalize odV (unitsV e f a + unitsV e f b) = on at *
  generalize shE (unitsV e f a + unitsV e f b) (unV e f) = sn at *
  generalize unV e f = un at *
  generalize unitsV e f a = ua at *
  generalize unitsV e f b = ub at *
  go_enter Try.func153, Try.ntmps153
  go_wp2_with fail
  go_region_held3 (fun w' => w'.cell? ⟨w.heap.size, 0, none⟩ = some (.int .i64 e) ∧ w'.cell? ⟨w.heap.size, 1, none⟩ = some (.int .i64 f) ∧ w.heap.size + 1 < w'.heap.size) ((refine ⟨?_, ?_, ?_⟩ <;> first | with_reducible assumption | ((repeat first | rw [cell_set_far _ _ _ _ _ _ (by omega)] | rw [cell_alloc_before _ _ _ _ (by omega)] | rw [cell_alloc_drew _ _ _ _ (by omega)] | rw [cell_drew]); with_reducible assumption) | ((rw [cell_setRow_far _ _ _ _ _ (by omega)]); with_reducible assumption) | ((rw [setRow_size]); with_reducible assumption) | (simp; done) | (simp [World.setCell]; first | done | omega) | (simp [go_sem, World.cell?_alloc_past, World.cell?_setCell_far, *]; done))) ((first | (go_at_call 140; (with_reducible refine (UA.out _).mono ?_); rintro rv w1 ⟨rfl, hb⟩; have ns : w.heap.size + 1 < w1.heap.size := hb.lt (by first | with_reducible assumption | omega | (simp; done) | (simp; omega)); have n0 : w1.cell? ⟨w.heap.size, 0, none⟩ = some (.int .i64 e) := (hb.cells _ _ (by first | with_reducible assumption | omega | (simp; done) | (simp; omega))).trans (by first | with_reducible assumption | (simp; done) | (simp; with_reducible assumption) | (rw [cell_alloc_before _ _ _ _ (by omega)]; with_reducible assumption) | (simp [go_sem, *]; done)); have n1 : w1.cell? ⟨w.heap.size, 1, none⟩ = some (.int .i64 f) := (hb.cells _ _ (by first | with_reducible assumption | omega | (simp; done) | (simp; omega))).trans (by first | with_reducible assumption | (simp; done) | (simp; with_reducible assumption) | (rw [cell_alloc_before _ _ _ _ (by omega)]; with_reducible assumption) | (simp [go_sem, *]; done)); have n2 : w1.cell? ⟨w.heap.size + 1, 0, none⟩ = some (.int .i64 0) := (hb.cells _ _ (by first | with_reducible assumption | omega | (simp; done) | (simp; omega))).trans (by first | with_reducible assumption | (simp; done) | (simp; with_reducible assumption) | (rw [cell_alloc_before _ _ _ _ (by omega)]; with_reducible assumption) | (simp [go_sem, *]; done)); have n3 : w1.cell? ⟨w.heap.size + 1, 1, none⟩ = some (.int .i64 0) := (hb.cells _ _ (by first | with_reducible assumption | omega | (simp; done) | (simp; omega))).trans (by first | with_reducible assumption | (simp; done) | (simp; with_reducible assumption) | (rw [cell_alloc_before _ _ _ _ (by omega)]; with_reducible assumption) | (simp [go_sem, *]; done)); have nz0 : w1.frozen? ⟨w.heap.size + 1, 0, none⟩ = false := (hb.frz _ _ (by first | with_reducible assumption | omega | (simp; done) | (simp; omega))).trans (by first | with_reducible assumption | (simp [go_sem]; done) | (simp [go_sem]; with_reducible assumption)); have nz1 : w1.frozen? ⟨w.heap.size + 1, 1, none⟩ = false := (hb.frz _ _ (by first | with_reducible assumption | omega | (simp; done) | (simp; omega))).trans (by first | with_reducible assumption | (simp [go_sem]; done) | (simp [go_sem]; with_reducible assumption)); (first | (have nx := Ext.trans hx hb; clear hx) | (have nx := Ext.trans (hx.alloc _) hb; clear hx) | (have nx := Ext.trans hx.drew hb; clear hx) | have nx := hb); clear hb; try clear hs; try clear g0; try clear g1; try clear g2; try clear g3; try clear z0; try clear z1; have hx := nx; clear nx; have hs := ns; clear ns; have g0 := n0; clear n0; have g1 := n1; clear n1; have g2 := n2; clear n2; have g3 := n3; clear n3; have z0 := nz0; clear nz0; have z1 := nz1; clear nz1) | (go_at_call 140; (with_reducible refine (UB.out _).mono ?_); rintro rv w1 ⟨rfl, hb⟩; have ns : w.heap.size + 1 < w1.heap.size := hb.lt (by first | with_reducible assumption | omega | (simp; done) | (simp; omega)); have n0 : w1.cell? ⟨w.heap.size, 0, none⟩ = some (.int .i64 e) := (hb.cells _ _ (by first | with_reducible assumption | omega | (simp; done) | (simp; omega))).trans (by first | with_reducible assumption | (simp; done) | (simp; with_reducible assumption) | (rw [cell_alloc_before _ _ _ _ (by omega)]; with_reducible assumption) | (simp [go_sem, *]; done)); have n1 : w1.cell? ⟨w.heap.size, 1, none⟩ = some (.int .i64 f) := (hb.cells _ _ (by first | with_reducible assumption | omega | (simp; done) | (simp; omega))).trans (by first | with_reducible assumption | (simp; done) | (simp; with_reducible assumption) | (rw [cell_alloc_before _ _ _ _ (by omega)]; with_reducible assumption) | (simp [go_sem, *]; done)); have n2 : w1.cell? ⟨w.heap.size + 1, 0, none⟩ = some (.int .i64 0) := (hb.cells _ _ (by first | with_reducible assumption | omega | (simp; done) | (simp; omega))).trans (by first | with_reducible assumption | (simp; done) | (simp; with_reducible assumption) | (rw [cell_alloc_before _ _ _ _ (by omega)]; with_reducible assumption) | (simp [go_sem, *]; done)); have n3 : w1.cell? ⟨w.heap.size + 1, 1, none⟩ = some (.int .i64 0) := (hb.cells _ _ (by first | with_reducible assumption | omega | (simp; done) | (simp; omega))).trans (by first | with_reducible assumption | (simp; done) | (simp; with_reducible assumption) | (rw [cell_alloc_before _ _ _ _ (by omega)]; with_reducible assumption) | (simp [go_sem, *]; done)); have nz0 : w1.frozen? ⟨w.heap.size + 1, 0, none⟩ = false := (hb.frz _ _ (by first | with_reducible assumption | omega | (simp; done) | (simp; omega))).trans (by first | with_reducible assumption | (simp [go_sem]; done) | (simp [go_sem]; with_reducible assumption)); have nz1 : w1.frozen? ⟨w.heap.size + 1, 1, none⟩ = false := (hb.frz _ _ (by first | with_reducible assumption | omega | (simp; done) | (simp; omega))).trans (by first | with_reducible assumption | (simp [go_sem]; done) | (simp [go_sem]; with_reducible assumption)); (first | (have nx := Ext.trans hx hb; clear hx) | (have nx := Ext.trans (hx.alloc _) hb; clear hx) | (have nx := Ext.trans hx.drew hb; clear hx) | have nx := hb); clear hb; try clear hs; try clear g0; try clear g1; try clear g2; try clear g3; try clear z0; try clear z1; have hx := nx; clear nx; have hs := ns; clear ns; have g0 := n0; clear n0; have g1 := n1; clear n1; have g2 := n2; clear n2; have g3 := n3; clear n3; have z0 := nz0; clear nz0; have z1 := nz1; clear nz1) | (go_at_call 162; refine (UN.out _).mono ?_; rintro rv w1 ⟨rfl, hb⟩; have ns : w.heap.size + 1 < w1.heap.size := hb.lt (by first | with_reducible assumption | omega | (simp; done) | (simp; omega)); have n0 : w1.cell? ⟨w.heap.size, 0, none⟩ = some (.int .i64 e) := (hb.cells _ _ (by first | with_reducible assumption | omega | (simp; done) | (simp; omega))).trans (by first | with_reducible assumption | (simp; done) | (simp; with_reducible assumption) | (rw [cell_alloc_before _ _ _ _ (by omega)]; with_reducible assumption) | (simp [go_sem, *]; done)); have n1 : w1.cell? ⟨w.heap.size, 1, none⟩ = some (.int .i64 f) := (hb.cells _ _ (by first | with_reducible assumption | omega | (simp; done) | (simp; omega))).trans (by first | with_reducible assumption | (simp; done) | (simp; with_reducible assumption) | (rw [cell_alloc_before _ _ _ _ (by omega)]; with_reducible assumption) | (simp [go_sem, *]; done)); have n2 : w1.cell? ⟨w.heap.size + 1, 0, none⟩ = some (.int .i64 0) := (hb.cells _ _ (by first | with_reducible assumption | omega | (simp; done) | (simp; omega))).trans (by first | with_reducible assumption | (simp; done) | (simp; with_reducible assumption) | (rw [cell_alloc_before _ _ _ _ (by omega)]; with_reducible assumption) | (simp [go_sem, *]; done)); have n3 : w1.cell? ⟨w.heap.size + 1, 1, none⟩ = some (.int .i64 0) := (hb.cells _ _ (by first | with_reducible assumption | omega | (simp; done) | (simp; omega))).trans (by first | with_reducible assumption | (simp; done) | (simp; with_reducible assumption) | (rw [cell_alloc_before _ _ _ _ (by omega)]; with_reducible assumption) | (simp [go_sem, *]; done)); have nz0 : w1.frozen? ⟨w.heap.size + 1, 0, none⟩ = false := (hb.frz _ _ (by first | with_reducible assumption | omega | (simp; done) | (simp; omega))).trans (by first | with_reducible assumption | (simp [go_sem]; done) | (simp [go_sem]; with_reducible assumption)); have nz1 : w1.frozen? ⟨w.heap.size + 1, 1, none⟩ = false := (hb.frz _ _ (by first | with_reducible assumption | omega | (simp; done) | (simp; omega))).trans (by first | with_reducible assumption | (simp [go_sem]; done) | (simp [go_sem]; with_reducible assumption)); (first | (have nx := Ext.trans hx hb; clear hx) | (have nx := Ext.trans (hx.alloc _) hb; clear hx) | (have nx := Ext.trans hx.drew hb; clear hx) | have nx := hb); clear hb; try clear hs; try clear g0; try clear g1; try clear g2; try clear g3; try clear z0; try clear z1; have hx := nx; clear nx; have hs := ns; clear ns; have g0 := n0; clear n0; have g1 := n1; clear n1; have g2 := n2; clear n2; have g3 := n3; clear n3; have z0 := nz0; clear nz0; have z1 := nz1; clear nz1) | (go_at_call 98; refine (SH.out _).mono ?_; rintro rv w1 ⟨rfl, hb⟩; have ns : w.heap.size + 1 < w1.heap.size := hb.lt (by first | with_reducible assumption | omega | (simp; done) | (simp; omega)); have n0 : w1.cell? ⟨w.heap.size, 0, none⟩ = some (.int .i64 e) := (hb.cells _ _ (by first | with_reducible assumption | omega | (simp; done) | (simp; omega))).trans (by first | with_reducible assumption | (simp; done) | (simp; with_reducible assumption) | (rw [cell_alloc_before _ _ _ _ (by omega)]; with_reducible assumption) | (simp [go_sem, *]; done)); have n1 : w1.cell? ⟨w.heap.size, 1, none⟩ = some (.int .i64 f) := (hb.cells _ _ (by first | with_reducible assumption | omega | (simp; done) | (simp; omega))).trans (by first | with_reducible assumption | (simp; done) | (simp; with_reducible assumption) | (rw [cell_alloc_before _ _ _ _ (by omega)]; with_reducible assumption) | (simp [go_sem, *]; done)); have n2 : w1.cell? ⟨w.heap.size + 1, 0, none⟩ = some (.int .i64 0) := (hb.cells _ _ (by first | with_reducible assumption | omega | (simp; done) | (simp; omega))).trans (by first | with_reducible assumption | (simp; done) | (simp; with_reducible assumption) | (rw [cell_alloc_before _ _ _ _ (by omega)]; with_reducible assumption) | (simp [go_sem, *]; done)); have n3 : w1.cell? ⟨w.heap.size + 1, 1, none⟩ = some (.int .i64 0) := (hb.cells _ _ (by first | with_reducible assumption | omega | (simp; done) | (simp; omega))).trans (by first | with_reducible assumption | (simp; done) | (simp; with_reducible assumption) | (rw [cell_alloc_before _ _ _ _ (by omega)]; with_reducible assumption) | (simp [go_sem, *]; done)); have nz0 : w1.frozen? ⟨w.heap.size + 1, 0, none⟩ = false := (hb.frz _ _ (by first | with_reducible assumption | omega | (simp; done) | (simp; omega))).trans (by first | with_reducible assumption | (simp [go_sem]; done) | (simp [go_sem]; with_reducible assumption)); have nz1 : w1.frozen? ⟨w.heap.size + 1, 1, none⟩ = false := (hb.frz _ _ (by first | with_reducible assumption | omega | (simp; done) | (simp; omega))).trans (by first | with_reducible assumption | (simp [go_sem]; done) | (simp [go_sem]; with_reducible assumption)); (first | (have nx := Ext.trans hx hb; clear hx) | (have nx := Ext.trans (hx.alloc _) hb; clear hx) | (have nx := Ext.trans hx.drew hb; clear hx) | have nx := hb); clear hb; try clear hs; try clear g0; try clear g1; try clear g2; try clear g3; try clear z0; try clear z1; have hx := nx; clear nx; have hs := ns; clear ns; have g0 := n0; clear n0; have g1 := n1; clear n1; have g2 := n2; clear n2; have g3 := n3; clear n3; have z0 := nz0; clear nz0; have z1 := nz1; clear nz1)))
  all_goals (try go_wp2_with fail)
  all_goals exact bodyPost_ret (v := two on sn) (by simp [results, Try.results153, go_sem, *]) rfl ⟨rfl, (by repeat (first | exact Ext.refl _ | with_reducible assumption | apply Ext.alloc | apply Ext.drew | apply Ext.drewN | (refine Ext.setRow ?_ (by first | (simp; done) | (simp; omega) | omega) _) | (refine Ext.setCell ?_ (by first | (simp; done) | (simp; omega) | omega) _) | (refine Ext.trans ?_ (by with_reducible assumption))))⟩
end Go.Proofs.Ytcpamgmaijjhoaa

namespace Go.Proofs.Ytcpamgmaijjhoaa
open Go Go.RowKit
set_option linter.unusedSimpArgs false
set_option linter.unusedVariables false
set_option maxRecDepth 100000

theorem rnEven_any (e f a b : Int) (ha : finB e f a = true) (hb2 : finB e f b = true) (w : World) : Calls Try.prog 68 #[fmt e f, .int .i64 a, .int .i64 b] w fun rv w' => rv = .returned (.tuple #[.int .i64 (evS e f b a), .bool (evO e f b a)]) ∧ Ext w w' := by
  obtain ⟨s0, s1, s2, s3, s4, s5⟩ := ns_small ha hb2
  have hg := (pat_iff.1 (fin_pat ha).1).1
  obtain ⟨hp, hf⟩ := ns_pat (u := (unitsV e f a + unitsV e f b)) hg
  have RN := Lib.hid (fun w => rnSum_any e f a b ha hb2 w)
  have RR : RowKit.Hid (∀ w, Calls Try.prog 100 #[fmt e f, two (odV (unitsV e f a + unitsV e f b)) (shE (unitsV e f a + unitsV e f b) (unV e f)), .int .i64 0] w fun rv w' => rv = .returned (.int .i64 (evS e f b a)) ∧ Ext w w') := Lib.hid (fun w => by
    refine (rdRound_short e f (unitsV e f a + unitsV e f b) (unV e f) 0 hg (by omega) (by omega) (by omega) (by omega) (by decide) (by decide) w).mono ?_
    rintro rv w' ⟨s, rfl, hq, hb⟩
    rw [ev_round hg hq]
    exact ⟨rfl, hb⟩)
  have FK := Lib.hid (fun w => fmKind_any e f (evS e f b a) hp w)
  have HK : RowKit.Hid (evO e f b a = decide (kindV e f (evS e f b a) < 3)) := Lib.hid ((kind_lt3 hp).trans hf).symm
  clear s0 s1 s2 s3 s4 s5 hp hf
  generalize evO e f b a = O at *
  generalize evS e f b a = R at *
  generalize kindV e f R = KV at *
  generalize odV (unitsV e f a + unitsV e f b) = on at *
  generalize shE (unitsV e f a + unitsV e f b) (unV e f) = sn at *
  have h4 : O = decide (KV < 3) := HK.out
  clear HK
  subst h4
  go_enter Try.func68, Try.ntmps68
  go_wp2_with fail
  go_region_held3 (fun w' => w'.cell? ⟨w.heap.size, 0, none⟩ = some (.int .i64 e) ∧ w'.cell? ⟨w.heap.size, 1, none⟩ = some (.int .i64 f) ∧ w.heap.size < w'.heap.size) ((refine ⟨?_, ?_, ?_⟩ <;> first | with_reducible assumption | ((repeat first | rw [cell_set_far _ _ _ _ _ _ (by omega)] | rw [cell_alloc_before _ _ _ _ (by omega)] | rw [cell_alloc_drew _ _ _ _ (by omega)] | rw [cell_drew]); with_reducible assumption) | ((rw [cell_setRow_far _ _ _ _ _ (by omega)]); with_reducible assumption) | ((rw [setRow_size]); with_reducible assumption) | (simp; done) | (simp [World.setCell]; first | done | omega) | (simp [go_sem, World.cell?_alloc_past, World.cell?_setCell_far, *]; done))) ((first | (go_at_call 153; refine (RN.out _).mono ?_; rintro rv w1 ⟨rfl, hb⟩; have ns : w.heap.size < w1.heap.size := hb.lt (by first | with_reducible assumption | omega | (simp; done) | (simp; omega)); have n0 : w1.cell? ⟨w.heap.size, 0, none⟩ = some (.int .i64 e) := (hb.cells _ _ (by first | with_reducible assumption | omega | (simp; done) | (simp; omega))).trans (by first | with_reducible assumption | (simp; done) | (simp; with_reducible assumption) | (rw [cell_alloc_before _ _ _ _ (by omega)]; with_reducible assumption) | (simp [go_sem, *]; done)); have n1 : w1.cell? ⟨w.heap.size, 1, none⟩ = some (.int .i64 f) := (hb.cells _ _ (by first | with_reducible assumption | omega | (simp; done) | (simp; omega))).trans (by first | with_reducible assumption | (simp; done) | (simp; with_reducible assumption) | (rw [cell_alloc_before _ _ _ _ (by omega)]; with_reducible assumption) | (simp [go_sem, *]; done)); (first | (have nx := Ext.trans hx hb; clear hx) | (have nx := Ext.trans (hx.alloc _) hb; clear hx) | (have nx := Ext.trans hx.drew hb; clear hx) | have nx := hb); clear hb; try clear hs; try clear g0; try clear g1; have hx := nx; clear nx; have hs := ns; clear ns; have g0 := n0; clear n0; have g1 := n1; clear n1) | (go_at_call 100; refine (RR.out _).mono ?_; rintro rv w1 ⟨rfl, hb⟩; have ns : w.heap.size < w1.heap.size := hb.lt (by first | with_reducible assumption | omega | (simp; done) | (simp; omega)); have n0 : w1.cell? ⟨w.heap.size, 0, none⟩ = some (.int .i64 e) := (hb.cells _ _ (by first | with_reducible assumption | omega | (simp; done) | (simp; omega))).trans (by first | with_reducible assumption | (simp; done) | (simp; with_reducible assumption) | (rw [cell_alloc_before _ _ _ _ (by omega)]; with_reducible assumption) | (simp [go_sem, *]; done)); have n1 : w1.cell? ⟨w.heap.size, 1, none⟩ = some (.int .i64 f) := (hb.cells _ _ (by first | with_reducible assumption | omega | (simp; done) | (simp; omega))).trans (by first | with_reducible assumption | (simp; done) | (simp; with_reducible assumption) | (rw [cell_alloc_before _ _ _ _ (by omega)]; with_reducible assumption) | (simp [go_sem, *]; done)); (first | (have nx := Ext.trans hx hb; clear hx) | (have nx := Ext.trans (hx.alloc _) hb; clear hx) | (have nx := Ext.trans hx.drew hb; clear hx) | have nx := hb); clear hb; try clear hs; try clear g0; try clear g1; have hx := nx; clear nx; have hs := ns; clear ns; have g0 := n0; clear n0; have g1 := n1; clear n1)))
  go_wp2_with (go_at_call 143; refine (FK.out _).mono ?_; rintro rv w1 ⟨rfl, hb⟩; have ns : w.heap.size < w1.heap.size := hb.lt (by first | with_reducible assumption | omega | (simp; done) | (simp; omega)); have n0 : w1.cell? ⟨w.heap.size, 0, none⟩ = some (.int .i64 e) := (hb.cells _ _ (by first | with_reducible assumption | omega | (simp; done) | (simp; omega))).trans (by first | with_reducible assumption | (simp; done) | (simp; with_reducible assumption) | (rw [cell_alloc_before _ _ _ _ (by omega)]; with_reducible assumption) | (simp [go_sem, *]; done)); have n1 : w1.cell? ⟨w.heap.size, 1, none⟩ = some (.int .i64 f) := (hb.cells _ _ (by first | with_reducible assumption | omega | (simp; done) | (simp; omega))).trans (by first | with_reducible assumption | (simp; done) | (simp; with_reducible assumption) | (rw [cell_alloc_before _ _ _ _ (by omega)]; with_reducible assumption) | (simp [go_sem, *]; done)); (first | (have nx := Ext.trans hx hb; clear hx) | (have nx := Ext.trans (hx.alloc _) hb; clear hx) | (have nx := Ext.trans hx.drew hb; clear hx) | have nx := hb); clear hb; try clear hs; try clear g0; try clear g1; have hx := nx; clear nx; have hs := ns; clear ns; have g0 := n0; clear n0; have g1 := n1; clear n1)
  go_ret2
  exact ⟨rfl, (by repeat (first | exact Ext.refl _ | with_reducible assumption | apply Ext.alloc | apply Ext.drew | apply Ext.drewN | (refine Ext.setRow ?_ (by first | (simp; done) | (simp; omega) | omega) _) | (refine Ext.setCell ?_ (by first | (simp; done) | (simp; omega) | omega) _) | (refine Ext.trans ?_ (by with_reducible assumption))))⟩

theorem rnBoth_any (e f a b : Int) (w : World) : Calls Try.prog 66 #[fmt e f, .int .i64 a, .int .i64 b] w fun rv w' => rv = .returned (.bool (finB e f a && finB e f b)) ∧ Ext w w' := by
  have FA := Lib.hid (fun w => fmFinite_any e f a w)
  have FB := Lib.hid (fun w => fmFinite_any e f b w)
  cases h0 : finB e f a
  · rw [h0] at FA
    go_enter Try.func66, Try.ntmps66
    go_wp2_with (go_at_call 152; refine (FA.out _).mono ?_; rintro rv w1 ⟨rfl, hb⟩; have ns : w.heap.size < w1.heap.size := hb.lt (by first | with_reducible assumption | omega | (simp; done) | (simp; omega)); have n0 : w1.cell? ⟨w.heap.size, 0, none⟩ = some (.int .i64 e) := (hb.cells _ _ (by first | with_reducible assumption | omega | (simp; done) | (simp; omega))).trans (by first | with_reducible assumption | (simp; done) | (simp; with_reducible assumption) | (rw [cell_alloc_before _ _ _ _ (by omega)]; with_reducible assumption) | (simp [go_sem, *]; done)); have n1 : w1.cell? ⟨w.heap.size, 1, none⟩ = some (.int .i64 f) := (hb.cells _ _ (by first | with_reducible assumption | omega | (simp; done) | (simp; omega))).trans (by first | with_reducible assumption | (simp; done) | (simp; with_reducible assumption) | (rw [cell_alloc_before _ _ _ _ (by omega)]; with_reducible assumption) | (simp [go_sem, *]; done)); (first | (have nx := Ext.trans hx hb; clear hx) | (have nx := Ext.trans (hx.alloc _) hb; clear hx) | (have nx := Ext.trans hx.drew hb; clear hx) | have nx := hb); clear hb; try clear hs; try clear g0; try clear g1; have hx := nx; clear nx; have hs := ns; clear ns; have g0 := n0; clear n0; have g1 := n1; clear n1)
    go_ret
    exact ⟨rfl, (by repeat (first | exact Ext.refl _ | with_reducible assumption | apply Ext.alloc | apply Ext.drew | apply Ext.drewN | (refine Ext.setRow ?_ (by first | (simp; done) | (simp; omega) | omega) _) | (refine Ext.setCell ?_ (by first | (simp; done) | (simp; omega) | omega) _) | (refine Ext.trans ?_ (by with_reducible assumption))))⟩
  · rw [h0] at FA
    generalize finB e f b = B at *
    go_enter Try.func66, Try.ntmps66
    go_wp2_with (first | (go_at_call 152; (with_reducible refine (FA.out _).mono ?_); rintro rv w1 ⟨rfl, hb⟩; have ns : w.heap.size < w1.heap.size := hb.lt (by first | with_reducible assumption | omega | (simp; done) | (simp; omega)); have n0 : w1.cell? ⟨w.heap.size, 0, none⟩ = some (.int .i64 e) := (hb.cells _ _ (by first | with_reducible assumption | omega | (simp; done) | (simp; omega))).trans (by first | with_reducible assumption | (simp; done) | (simp; with_reducible assumption) | (rw [cell_alloc_before _ _ _ _ (by omega)]; with_reducible assumption) | (simp [go_sem, *]; done)); have n1 : w1.cell? ⟨w.heap.size, 1, none⟩ = some (.int .i64 f) := (hb.cells _ _ (by first | with_reducible assumption | omega | (simp; done) | (simp; omega))).trans (by first | with_reducible assumption | (simp; done) | (simp; with_reducible assumption) | (rw [cell_alloc_before _ _ _ _ (by omega)]; with_reducible assumption) | (simp [go_sem, *]; done)); (first | (have nx := Ext.trans hx hb; clear hx) | (have nx := Ext.trans (hx.alloc _) hb; clear hx) | (have nx := Ext.trans hx.drew hb; clear hx) | have nx := hb); clear hb; try clear hs; try clear g0; try clear g1; have hx := nx; clear nx; have hs := ns; clear ns; have g0 := n0; clear n0; have g1 := n1; clear n1) | (go_at_call 152; (with_reducible refine (FB.out _).mono ?_); rintro rv w1 ⟨rfl, hb⟩; have ns : w.heap.size < w1.heap.size := hb.lt (by first | with_reducible assumption | omega | (simp; done) | (simp; omega)); have n0 : w1.cell? ⟨w.heap.size, 0, none⟩ = some (.int .i64 e) := (hb.cells _ _ (by first | with_reducible assumption | omega | (simp; done) | (simp; omega))).trans (by first | with_reducible assumption | (simp; done) | (simp; with_reducible assumption) | (rw [cell_alloc_before _ _ _ _ (by omega)]; with_reducible assumption) | (simp [go_sem, *]; done)); have n1 : w1.cell? ⟨w.heap.size, 1, none⟩ = some (.int .i64 f) := (hb.cells _ _ (by first | with_reducible assumption | omega | (simp; done) | (simp; omega))).trans (by first | with_reducible assumption | (simp; done) | (simp; with_reducible assumption) | (rw [cell_alloc_before _ _ _ _ (by omega)]; with_reducible assumption) | (simp [go_sem, *]; done)); (first | (have nx := Ext.trans hx hb; clear hx) | (have nx := Ext.trans (hx.alloc _) hb; clear hx) | (have nx := Ext.trans hx.drew hb; clear hx) | have nx := hb); clear hb; try clear hs; try clear g0; try clear g1; have hx := nx; clear nx; have hs := ns; clear ns; have g0 := n0; clear n0; have g1 := n1; clear n1))
    go_ret
    exact ⟨by rfl, (by repeat (first | exact Ext.refl _ | with_reducible assumption | apply Ext.alloc | apply Ext.drew | apply Ext.drewN | (refine Ext.setRow ?_ (by first | (simp; done) | (simp; omega) | omega) _) | (refine Ext.setCell ?_ (by first | (simp; done) | (simp; omega) | omega) _) | (refine Ext.trans ?_ (by with_reducible assumption))))⟩

/-- The steps are so many. -/
def stB (n : Int) : Bool := decide (0 ≤ n ∧ n ≤ 100)
end Go.Proofs.Ytcpamgmaijjhoaa

namespace Go.Proofs.Ytcpamgmaijjhoaa
open Go Go.RowKit
set_option linter.unusedSimpArgs false
set_option linter.unusedVariables false
set_option maxRecDepth 100000

/-- The sum stalls there, and nowhere before. -/
def slP (e f b a : Int) (k : Nat) : Prop := k ≤ 1000 ∧ evG e f b a (k + 1) = true ∧ evS e f b (evI e f b a k) = evI e f b a k ∧ ∀ j, j < k → evS e f b (evI e f b a j) ≠ evI e f b a j

theorem sl_next {e f b a : Int} {j k : Nat} (h : slP e f b a k) (hj : j ≤ k) : evG e f b a j = true ∧ evO e f b (evI e f b a j) = true ∧ (evS e f b (evI e f b a j) = evI e f b a j ↔ j = k) := by
  have g1 := evG_le (show j + 1 ≤ k + 1 by omega) h.2.1
  obtain ⟨g2, g3⟩ := evG_succ.1 g1
  refine ⟨g2, g3, ⟨fun he => ?_, fun he => by rw [he]; exact h.2.2.1⟩⟩
  rcases Nat.lt_or_ge j k with q | q
  · exact absurd he (h.2.2.2 j q)
  · omega

theorem sStallsAt_ask (e f a b : Int) (hg : (finB e f a && finB e f b) = false) (w : World) : Calls Try.prog 21 #[fmt e f, .int .i64 a, .int .i64 b] w fun rv w' => rv = .returned (.tuple #[.int .i64 0, .int .i64 0, .bool false]) ∧ Ext w w' := by
  have RB := Lib.hid (fun w => rnBoth_any e f a b w)
  rw [hg] at RB
  go_enter Try.func21, Try.ntmps21
  go_wp2_with (go_at_call 66; refine (RB.out _).mono ?_; rintro rv w1 ⟨rfl, hb⟩; have ns : w.heap.size < w1.heap.size := hb.lt (by first | with_reducible assumption | omega | (simp; done) | (simp; omega)); have n0 : w1.cell? ⟨w.heap.size, 0, none⟩ = some (.int .i64 e) := (hb.cells _ _ (by first | with_reducible assumption | omega | (simp; done) | (simp; omega))).trans (by first | with_reducible assumption | (simp; done) | (simp; with_reducible assumption) | (rw [cell_alloc_before _ _ _ _ (by omega)]; with_reducible assumption) | (simp [go_sem, *]; done)); have n1 : w1.cell? ⟨w.heap.size, 1, none⟩ = some (.int .i64 f) := (hb.cells _ _ (by first | with_reducible assumption | omega | (simp; done) | (simp; omega))).trans (by first | with_reducible assumption | (simp; done) | (simp; with_reducible assumption) | (rw [cell_alloc_before _ _ _ _ (by omega)]; with_reducible assumption) | (simp [go_sem, *]; done)); (first | (have nx := Ext.trans hx hb; clear hx) | (have nx := Ext.trans (hx.alloc _) hb; clear hx) | (have nx := Ext.trans hx.drew hb; clear hx) | have nx := hb); clear hb; try clear hs; try clear g0; try clear g1; have hx := nx; clear nx; have hs := ns; clear ns; have g0 := n0; clear n0; have g1 := n1; clear n1)
  exact bodyPost_ret (v := .tuple #[.int .i64 0, .int .i64 0, .bool false]) (by simp [results, Try.results21, go_sem, *]) rfl ⟨rfl, (by repeat (first | exact Ext.refl _ | with_reducible assumption | apply Ext.alloc | apply Ext.drew | apply Ext.drewN | (refine Ext.setRow ?_ (by first | (simp; done) | (simp; omega) | omega) _) | (refine Ext.setCell ?_ (by first | (simp; done) | (simp; omega) | omega) _) | (refine Ext.trans ?_ (by with_reducible assumption))))⟩

set_option maxHeartbeats 3200000 in
theorem sStallsAt_yes (e f a b : Int) (k : Nat) (hg : (finB e f a && finB e f b) = true) (h : slP e f b a k) (w : World) : Calls Try.prog 21 #[fmt e f, .int .i64 a, .int .i64 b] w fun rv w' => rv = .returned (.tuple #[.int .i64 (evI e f b a k), .int .i64 (k : Int), .bool true]) ∧ Ext w w' := by
  have hk := h.1
  rw [Bool.and_eq_true] at hg
  obtain ⟨ha, hb2⟩ := hg
  have hg0 := (pat_iff.1 (fin_pat ha).1).1
  have RB := Lib.hid (fun w => rnBoth_any e f a b w)
  rw [ha, hb2, Bool.true_and] at RB
  have HF := Lib.hid (fun k h => ev_fin (b := b) (k := k) hg0 ha h)
  have HB := Lib.hid hb2
  have SL := Lib.hid h
  clear h ha hb2
  go_enter Try.func21, Try.ntmps21
  go_wp2_with (go_at_call 66; refine (RB.out _).mono ?_; rintro rv w1 ⟨rfl, hb⟩; have ns : w.heap.size < w1.heap.size := hb.lt (by first | with_reducible assumption | omega | (simp; done) | (simp; omega)); have n0 : w1.cell? ⟨w.heap.size, 0, none⟩ = some (.int .i64 e) := (hb.cells _ _ (by first | with_reducible assumption | omega | (simp; done) | (simp; omega))).trans (by first | with_reducible assumption | (simp; done) | (simp; with_reducible assumption) | (rw [cell_alloc_before _ _ _ _ (by omega)]; with_reducible assumption) | (simp [go_sem, *]; done)); have n1 : w1.cell? ⟨w.heap.size, 1, none⟩ = some (.int .i64 f) := (hb.cells _ _ (by first | with_reducible assumption | omega | (simp; done) | (simp; omega))).trans (by first | with_reducible assumption | (simp; done) | (simp; with_reducible assumption) | (rw [cell_alloc_before _ _ _ _ (by omega)]; with_reducible assumption) | (simp [go_sem, *]; done)); (first | (have nx := Ext.trans hx hb; clear hx) | (have nx := Ext.trans (hx.alloc _) hb; clear hx) | (have nx := Ext.trans hx.drew hb; clear hx) | have nx := hb); clear hb; try clear hs; try clear g0; try clear g1; have hx := nx; clear nx; have hs := ns; clear ns; have g0 := n0; clear n0; have g1 := n1; clear n1)
  go_loopw [9, 10] (fun x y wr => ∃ j : Nat, y = .int .i64 (j : Int) ∧ j ≤ k ∧ x = .int .i64 (evI e f b a j) ∧ wr.cell? ⟨w.heap.size, 0, none⟩ = some (.int .i64 e) ∧ wr.cell? ⟨w.heap.size, 1, none⟩ = some (.int .i64 f) ∧ w.heap.size < wr.heap.size ∧ Ext w wr) (fun _ y _ => k + 1 - (intOf y).toNat)
  case atStart => exact ⟨0, rfl, by omega, rfl, by with_reducible assumption, by with_reducible assumption, by with_reducible assumption, (by repeat (first | exact Ext.refl _ | with_reducible assumption | apply Ext.alloc | apply Ext.drew | apply Ext.drewN | (refine Ext.setRow ?_ (by first | (simp; done) | (simp; omega) | omega) _) | (refine Ext.setCell ?_ (by first | (simp; done) | (simp; omega) | omega) _) | (refine Ext.trans ?_ (by with_reducible assumption))))⟩
  case round =>
    obtain ⟨j, rfl, hj, rfl, g0, g1, hs, hx⟩ := hrel
    obtain ⟨G1, G2, G3⟩ := sl_next SL.out hj
    have HG := Lib.hid G1
    have hle : (j : Int) ≤ 1000 := by omega
    have G4 := Lib.hid G3
    have RE := Lib.hid (fun w => rnEven_any e f (evI e f b a j) b (HF.out j HG.out) HB.out w)
    have k5 : IntKind.i64.wrap ((j : Int) + 1) = (j : Int) + 1 := IntWalk.i64_in _ (by omega)
    have E1 : RowKit.Hid (evI e f b a (j + 1) = evS e f b (evI e f b a j)) := Lib.hid rfl
    rw [G2] at RE
    clear G1 G2 G3
    by_cases hjk : j = k
    · have hst : (evS e f b (evI e f b a j) == evI e f b a j) = true := by rw [beq_iff_eq]; exact G4.out.2 hjk
      have HJ := Lib.hid hjk
      clear hjk E1 G4
      have HR : RowKit.Hid (evI e f b a k = evI e f b a j) := Lib.hid (by rw [HJ.out])
      have HR2 : RowKit.Hid ((k : Int) = (j : Int)) := Lib.hid (by rw [HJ.out])
      generalize evS e f b (evI e f b a j) = R at *
      generalize evI e f b a j = P at *
      go_wp2_with (go_at_call 68; refine (RE.out _).mono ?_; rintro rv w1 ⟨rfl, hb⟩; have ns : w.heap.size < w1.heap.size := hb.lt (by first | with_reducible assumption | omega | (simp; done) | (simp; omega)); have n0 : w1.cell? ⟨w.heap.size, 0, none⟩ = some (.int .i64 e) := (hb.cells _ _ (by first | with_reducible assumption | omega | (simp; done) | (simp; omega))).trans (by first | with_reducible assumption | (simp; done) | (simp; with_reducible assumption) | (rw [cell_alloc_before _ _ _ _ (by omega)]; with_reducible assumption) | (simp [go_sem, *]; done)); have n1 : w1.cell? ⟨w.heap.size, 1, none⟩ = some (.int .i64 f) := (hb.cells _ _ (by first | with_reducible assumption | omega | (simp; done) | (simp; omega))).trans (by first | with_reducible assumption | (simp; done) | (simp; with_reducible assumption) | (rw [cell_alloc_before _ _ _ _ (by omega)]; with_reducible assumption) | (simp [go_sem, *]; done)); (first | (have nx := Ext.trans hx hb; clear hx) | (have nx := Ext.trans (hx.alloc _) hb; clear hx) | (have nx := Ext.trans hx.drew hb; clear hx) | have nx := hb); clear hb; try clear hs; try clear g0; try clear g1; have hx := nx; clear nx; have hs := ns; clear ns; have g0 := n0; clear n0; have g1 := n1; clear n1)
      exact bodyPost_ret (v := .tuple #[.int .i64 P, .int .i64 (j : Int), .bool true]) (by simp [results, Try.results21, go_sem, *]) rfl ⟨by rw [HR.out, HR2.out], (by repeat (first | exact Ext.refl _ | with_reducible assumption | apply Ext.alloc | apply Ext.drew | apply Ext.drewN | (refine Ext.setRow ?_ (by first | (simp; done) | (simp; omega) | omega) _) | (refine Ext.setCell ?_ (by first | (simp; done) | (simp; omega) | omega) _) | (refine Ext.trans ?_ (by with_reducible assumption))))⟩
    · have hst : (evS e f b (evI e f b a j) == evI e f b a j) = false := by rw [beq_eq_false_iff_ne]; exact fun q => hjk (G4.out.1 q)
      clear G4
      generalize evS e f b (evI e f b a j) = R at *
      generalize evI e f b a j = P at *
      go_wp2_with (go_at_call 68; refine (RE.out _).mono ?_; rintro rv w1 ⟨rfl, hb⟩; have ns : w.heap.size < w1.heap.size := hb.lt (by first | with_reducible assumption | omega | (simp; done) | (simp; omega)); have n0 : w1.cell? ⟨w.heap.size, 0, none⟩ = some (.int .i64 e) := (hb.cells _ _ (by first | with_reducible assumption | omega | (simp; done) | (simp; omega))).trans (by first | with_reducible assumption | (simp; done) | (simp; with_reducible assumption) | (rw [cell_alloc_before _ _ _ _ (by omega)]; with_reducible assumption) | (simp [go_sem, *]; done)); have n1 : w1.cell? ⟨w.heap.size, 1, none⟩ = some (.int .i64 f) := (hb.cells _ _ (by first | with_reducible assumption | omega | (simp; done) | (simp; omega))).trans (by first | with_reducible assumption | (simp; done) | (simp; with_reducible assumption) | (rw [cell_alloc_before _ _ _ _ (by omega)]; with_reducible assumption) | (simp [go_sem, *]; done)); (first | (have nx := Ext.trans hx hb; clear hx) | (have nx := Ext.trans (hx.alloc _) hb; clear hx) | (have nx := Ext.trans hx.drew hb; clear hx) | have nx := hb); clear hb; try clear hs; try clear g0; try clear g1; have hx := nx; clear nx; have hs := ns; clear ns; have g0 := n0; clear n0; have g1 := n1; clear n1)
      go_roundw
      all_goals first | (simp [intOf]; omega) | exact ⟨j + 1, by simp, by omega, by rw [E1.out], by with_reducible assumption, by with_reducible assumption, by with_reducible assumption, (by repeat (first | exact Ext.refl _ | with_reducible assumption | apply Ext.alloc | apply Ext.drew | apply Ext.drewN | (refine Ext.setRow ?_ (by first | (simp; done) | (simp; omega) | omega) _) | (refine Ext.setCell ?_ (by first | (simp; done) | (simp; omega) | omega) _) | (refine Ext.trans ?_ (by with_reducible assumption))))⟩

set_option maxHeartbeats 3200000 in
theorem sStallsAt_no (e f a b : Int) (hg : (finB e f a && finB e f b) = true) (h : ∀ k, ¬ slP e f b a k) (w : World) : Calls Try.prog 21 #[fmt e f, .int .i64 a, .int .i64 b] w fun rv w' => rv = .returned (.tuple #[.int .i64 0, .int .i64 0, .bool false]) ∧ Ext w w' := by
  rw [Bool.and_eq_true] at hg
  obtain ⟨ha, hb2⟩ := hg
  have hg0 := (pat_iff.1 (fin_pat ha).1).1
  have RB := Lib.hid (fun w => rnBoth_any e f a b w)
  rw [ha, hb2, Bool.true_and] at RB
  have HF := Lib.hid (fun k h => ev_fin (b := b) (k := k) hg0 ha h)
  have HB := Lib.hid hb2
  have SL := Lib.hid h
  clear h ha hb2
  go_enter Try.func21, Try.ntmps21
  go_wp2_with (go_at_call 66; refine (RB.out _).mono ?_; rintro rv w1 ⟨rfl, hb⟩; have ns : w.heap.size < w1.heap.size := hb.lt (by first | with_reducible assumption | omega | (simp; done) | (simp; omega)); have n0 : w1.cell? ⟨w.heap.size, 0, none⟩ = some (.int .i64 e) := (hb.cells _ _ (by first | with_reducible assumption | omega | (simp; done) | (simp; omega))).trans (by first | with_reducible assumption | (simp; done) | (simp; with_reducible assumption) | (rw [cell_alloc_before _ _ _ _ (by omega)]; with_reducible assumption) | (simp [go_sem, *]; done)); have n1 : w1.cell? ⟨w.heap.size, 1, none⟩ = some (.int .i64 f) := (hb.cells _ _ (by first | with_reducible assumption | omega | (simp; done) | (simp; omega))).trans (by first | with_reducible assumption | (simp; done) | (simp; with_reducible assumption) | (rw [cell_alloc_before _ _ _ _ (by omega)]; with_reducible assumption) | (simp [go_sem, *]; done)); (first | (have nx := Ext.trans hx hb; clear hx) | (have nx := Ext.trans (hx.alloc _) hb; clear hx) | (have nx := Ext.trans hx.drew hb; clear hx) | have nx := hb); clear hb; try clear hs; try clear g0; try clear g1; have hx := nx; clear nx; have hs := ns; clear ns; have g0 := n0; clear n0; have g1 := n1; clear n1)
  go_loopw [9, 10] (fun x y wr => ∃ j : Nat, y = .int .i64 (j : Int) ∧ j ≤ 1001 ∧ x = .int .i64 (evI e f b a j) ∧ evG e f b a j = true ∧ RowKit.Hid (∀ i, i < j → evS e f b (evI e f b a i) ≠ evI e f b a i) ∧ wr.cell? ⟨w.heap.size, 0, none⟩ = some (.int .i64 e) ∧ wr.cell? ⟨w.heap.size, 1, none⟩ = some (.int .i64 f) ∧ w.heap.size < wr.heap.size ∧ Ext w wr) (fun _ y _ => 1002 - (intOf y).toNat)
  case atStart => exact ⟨0, rfl, by omega, rfl, rfl, Lib.hid (fun i hi => by omega), by with_reducible assumption, by with_reducible assumption, by with_reducible assumption, (by repeat (first | exact Ext.refl _ | with_reducible assumption | apply Ext.alloc | apply Ext.drew | apply Ext.drewN | (refine Ext.setRow ?_ (by first | (simp; done) | (simp; omega) | omega) _) | (refine Ext.setCell ?_ (by first | (simp; done) | (simp; omega) | omega) _) | (refine Ext.trans ?_ (by with_reducible assumption))))⟩
  case round =>
    obtain ⟨j, rfl, hj, rfl, G1, HN, g0, g1, hs, hx⟩ := hrel
    have HG := Lib.hid G1
    clear G1
    by_cases hle : (j : Int) ≤ 1000
    · skip
      have RE := Lib.hid (fun w => rnEven_any e f (evI e f b a j) b (HF.out j HG.out) HB.out w)
      have k5 : IntKind.i64.wrap ((j : Int) + 1) = (j : Int) + 1 := IntWalk.i64_in _ (by omega)
      have E1 : RowKit.Hid (evI e f b a (j + 1) = evS e f b (evI e f b a j)) := Lib.hid rfl
      cases hO : evO e f b (evI e f b a j)
      · rw [hO] at RE
        clear hO E1
        generalize evS e f b (evI e f b a j) = R at *
        generalize evI e f b a j = P at *
        go_wp2_with (go_at_call 68; refine (RE.out _).mono ?_; rintro rv w1 ⟨rfl, hb⟩; have ns : w.heap.size < w1.heap.size := hb.lt (by first | with_reducible assumption | omega | (simp; done) | (simp; omega)); have n0 : w1.cell? ⟨w.heap.size, 0, none⟩ = some (.int .i64 e) := (hb.cells _ _ (by first | with_reducible assumption | omega | (simp; done) | (simp; omega))).trans (by first | with_reducible assumption | (simp; done) | (simp; with_reducible assumption) | (rw [cell_alloc_before _ _ _ _ (by omega)]; with_reducible assumption) | (simp [go_sem, *]; done)); have n1 : w1.cell? ⟨w.heap.size, 1, none⟩ = some (.int .i64 f) := (hb.cells _ _ (by first | with_reducible assumption | omega | (simp; done) | (simp; omega))).trans (by first | with_reducible assumption | (simp; done) | (simp; with_reducible assumption) | (rw [cell_alloc_before _ _ _ _ (by omega)]; with_reducible assumption) | (simp [go_sem, *]; done)); (first | (have nx := Ext.trans hx hb; clear hx) | (have nx := Ext.trans (hx.alloc _) hb; clear hx) | (have nx := Ext.trans hx.drew hb; clear hx) | have nx := hb); clear hb; try clear hs; try clear g0; try clear g1; have hx := nx; clear nx; have hs := ns; clear ns; have g0 := n0; clear n0; have g1 := n1; clear n1)
        exact bodyPost_ret (v := .tuple #[.int .i64 0, .int .i64 0, .bool false]) (by simp [results, Try.results21, go_sem, *]) rfl ⟨rfl, (by repeat (first | exact Ext.refl _ | with_reducible assumption | apply Ext.alloc | apply Ext.drew | apply Ext.drewN | (refine Ext.setRow ?_ (by first | (simp; done) | (simp; omega) | omega) _) | (refine Ext.setCell ?_ (by first | (simp; done) | (simp; omega) | omega) _) | (refine Ext.trans ?_ (by with_reducible assumption))))⟩
      · have E3 : RowKit.Hid (evG e f b a (j + 1) = true) := Lib.hid (evG_succ.2 ⟨HG.out, hO⟩)
        rw [hO] at RE
        have hne : evS e f b (evI e f b a j) ≠ evI e f b a j := fun q => SL.out j ⟨by omega, E3.out, q, HN.out⟩
        have hst : (evS e f b (evI e f b a j) == evI e f b a j) = false := by rw [beq_eq_false_iff_ne]; exact hne
        have HN2 : RowKit.Hid (∀ i, i < j + 1 → evS e f b (evI e f b a i) ≠ evI e f b a i) := Lib.hid (fun i hi => by
          rcases Nat.lt_or_ge i j with q | q
          · exact HN.out i q
          · rw [show i = j by omega]; exact hne)
        clear hO hne HN
        generalize hR : evS e f b (evI e f b a j) = R at RE hst E1
        generalize hP : evI e f b a j = P at RE hst
        clear hR hP
        go_wp2_with (go_at_call 68; refine (RE.out _).mono ?_; rintro rv w1 ⟨rfl, hb⟩; have ns : w.heap.size < w1.heap.size := hb.lt (by first | with_reducible assumption | omega | (simp; done) | (simp; omega)); have n0 : w1.cell? ⟨w.heap.size, 0, none⟩ = some (.int .i64 e) := (hb.cells _ _ (by first | with_reducible assumption | omega | (simp; done) | (simp; omega))).trans (by first | with_reducible assumption | (simp; done) | (simp; with_reducible assumption) | (rw [cell_alloc_before _ _ _ _ (by omega)]; with_reducible assumption) | (simp [go_sem, *]; done)); have n1 : w1.cell? ⟨w.heap.size, 1, none⟩ = some (.int .i64 f) := (hb.cells _ _ (by first | with_reducible assumption | omega | (simp; done) | (simp; omega))).trans (by first | with_reducible assumption | (simp; done) | (simp; with_reducible assumption) | (rw [cell_alloc_before _ _ _ _ (by omega)]; with_reducible assumption) | (simp [go_sem, *]; done)); (first | (have nx := Ext.trans hx hb; clear hx) | (have nx := Ext.trans (hx.alloc _) hb; clear hx) | (have nx := Ext.trans hx.drew hb; clear hx) | have nx := hb); clear hb; try clear hs; try clear g0; try clear g1; have hx := nx; clear nx; have hs := ns; clear ns; have g0 := n0; clear n0; have g1 := n1; clear n1)
        go_roundw
        all_goals first | (simp [intOf]; omega) | exact ⟨j + 1, by simp, by omega, by rw [E1.out], E3.out, HN2, by with_reducible assumption, by with_reducible assumption, by with_reducible assumption, (by repeat (first | exact Ext.refl _ | with_reducible assumption | apply Ext.alloc | apply Ext.drew | apply Ext.drewN | (refine Ext.setRow ?_ (by first | (simp; done) | (simp; omega) | omega) _) | (refine Ext.setCell ?_ (by first | (simp; done) | (simp; omega) | omega) _) | (refine Ext.trans ?_ (by with_reducible assumption))))⟩
    · clear HN HF
      generalize evI e f b a j = P at *
      go_wp2_with fail
      exact bodyPost_ret (v := .tuple #[.int .i64 0, .int .i64 0, .bool false]) (by simp [results, Try.results21, go_sem, *]) rfl ⟨rfl, (by repeat (first | exact Ext.refl _ | with_reducible assumption | apply Ext.alloc | apply Ext.drew | apply Ext.drewN | (refine Ext.setRow ?_ (by first | (simp; done) | (simp; omega) | omega) _) | (refine Ext.setCell ?_ (by first | (simp; done) | (simp; omega) | omega) _) | (refine Ext.trans ?_ (by with_reducible assumption))))⟩
end Go.Proofs.Ytcpamgmaijjhoaa

