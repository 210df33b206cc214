/-
  Contracts of the functions that the laws reach, and the plain facts that they rest on, each under the conditions that its line names; part 24.
-/
import Derived.Test.YtcbkhlaiefiieacKya1
import Derived.Test.YtcbkhlaiefiieacKya2
import Derived.Test.YtcbkhlaiefiieacKya3
import Derived.Test.YtcbkhlaiefiieacKya4
import Derived.Test.YtcbkhlaiefiieacKya5
import Derived.Test.YtcbkhlaiefiieacKya6
import Derived.Test.YtcbkhlaiefiieacKya7
import Derived.Test.YtcbkhlaiefiieacKya8
import Derived.Test.YtcbkhlaiefiieacKya9
import Derived.Test.YtcbkhlaiefiieacKya10
import Derived.Test.YtcbkhlaiefiieacKya11
import Derived.Test.YtcbkhlaiefiieacKya12
import Derived.Test.YtcbkhlaiefiieacKya13
import Derived.Test.YtcbkhlaiefiieacKya14
import Derived.Test.YtcbkhlaiefiieacKya16
import Derived.Test.YtcbkhlaiefiieacKya17
import Derived.Test.YtcbkhlaiefiieacKya18
import Derived.Test.YtcbkhlaiefiieacKya19
import Derived.Test.YtcbkhlaiefiieacKya20
import Derived.Test.YtcbkhlaiefiieacKya21
import Derived.Test.YtcbkhlaiefiieacKya22
import Derived.Test.YtcbkhlaiefiieacKya23
import Derived.Test.YtcbkhlaiefiieacRows
import Derived.WalkKit
import Derived.LoopTactic
import Derived.LoopN
import Derived.Laws.OwnMore
import Derived.OwnWalk
import Derived.Deep.AppendLies
import Derived.Laws.Bits64b
import Derived.WalkSpells
import Derived.WalkLawsBesides
import Derived.StillTactics
import Derived.Laws.Pointers
import Derived.Deep.RegionHeld3
import Derived.Deep.QuietTactic
import Derived.BigQuiet
import Derived.Outline
import Derived.Lib.Hide
import Derived.RowKit3
import Derived.Carry
import Derived.IntWalk
namespace Go.Proofs.Ytcbkhlaiefiieac
open Go Go.RowKit
set_option linter.unusedSimpArgs false
set_option linter.unusedVariables false
set_option maxRecDepth 100000

theorem own_ext {w w' : World} {base : Nat} {e : TypeId} {size : Nat} {v : Value} {n : Nat} {xs : List Value} (h : w.ownsRow base e size v n xs) (hb : Ext w w') : w'.ownsRow base e size v n xs :=
  h.kept (row := none) ⟨hb.os, hb.tape, hb.output, hb.size, fun k hk _ => hb.block k hk⟩ (by by_cases h : v.ownBlock = none; exact Or.inl h; exact Or.inr h)

theorem ext_grown {w W w' : World} {row : Option Nat} (hx : Ext w W) (hg : W.grownBy w' row) (hr : ∀ k, row = some k → w.heap.size ≤ k) : Ext w w' :=
  ⟨hg.os.trans hx.os, hg.tape.trans hx.tape, hg.output.trans hx.output, Nat.le_trans hx.size hg.size, fun k hk => (hg.block k (Nat.lt_of_lt_of_le hk hx.size) (fun h => by have := hr k h.symm; omega)).trans (hx.block k hk)⟩

set_option maxHeartbeats 3200000 in
theorem valuesOf2_ (e f a b : Int) (g : Nat) (hg1 : goodB e f = true) (ha : finB e f a = true) (hb2 : finB e f b = true) (w : World) (ca : w.cell? ⟨g, 0, none⟩ = some (.int .i64 a)) (cb : w.cell? ⟨g, 1, none⟩ = some (.int .i64 b)) (hg : g < w.heap.size) :
    Calls Try.prog 61 #[fmt e f, .slice (some ⟨g, 0, none⟩) 2 2] w fun rv w' => ∃ v B, rv = .returned (.tuple #[v, .bool true]) ∧ w.heap.size ≤ B ∧ w'.ownsRow B 54 1 v 2 [.float .f32 (floatOfInt .f32 (unitsV e f a)), .float .f32 (floatOfInt .f32 (unitsV e f b))] ∧ Ext w w' := by
  obtain ⟨i, hi, hz, hsz, hby⟩ : ∃ i, Try.prog.info? 54 = some i ∧ i.zero = some (Value.float .f32 0) ∧ i.size = 1 ∧ i.bytes = 4 := by
    cases h : Try.prog.info? 54 with
    | none => exact absurd h (by have : (Try.prog.info? 54).isSome = true := by kernel_rfl
                                 intro h2; rw [h2] at this; cases this)
    | some i =>
      refine ⟨i, rfl, ?_, ?_, ?_⟩
      · have : (Try.prog.info? 54).map (·.zero) = some (some (Value.float .f32 0)) := by kernel_rfl
        rw [h] at this; exact Option.some.inj this
      · have : (Try.prog.info? 54).map (·.size) = some 1 := by kernel_rfl
        rw [h] at this; exact Option.some.inj this
      · have : (Try.prog.info? 54).map (·.bytes) = some 4 := by kernel_rfl
        rw [h] at this; exact Option.some.inj this
  have HI := Lib.hid hi; have HZ := Lib.hid hz; have HSZ := Lib.hid hsz; have HBY := Lib.hid hby; clear hi hz hsz hby
  go_enter Try.func61, Try.ntmps61
  go_wp2_with (go_at_call 55; refine (isFormat_any e f _).mono ?_; rintro rv w0 ⟨rfl, hb⟩; have ns : max w.heap.size g < w0.heap.size := hb.lt (by first | with_reducible assumption | omega | (simp; done) | (simp; omega)); have n0 : w0.cell? ⟨w.heap.size, 0, none⟩ = some (.int .i64 e) := (hb.cells _ _ (by first | with_reducible assumption | omega | (simp; done) | (simp; omega))).trans (by first | with_reducible assumption | (simp; done) | (simp; with_reducible assumption) | (rw [cell_alloc_before _ _ _ _ (by omega)]; with_reducible assumption) | (simp [go_sem, *]; done)); have n1 : w0.cell? ⟨w.heap.size, 1, none⟩ = some (.int .i64 f) := (hb.cells _ _ (by first | with_reducible assumption | omega | (simp; done) | (simp; omega))).trans (by first | with_reducible assumption | (simp; done) | (simp; with_reducible assumption) | (rw [cell_alloc_before _ _ _ _ (by omega)]; with_reducible assumption) | (simp [go_sem, *]; done)); have n2 : w0.cell? ⟨g, 0, none⟩ = some (.int .i64 a) := (hb.cells _ _ (by first | with_reducible assumption | omega | (simp; done) | (simp; omega))).trans (by first | with_reducible assumption | (simp; done) | (simp; with_reducible assumption) | (rw [cell_alloc_before _ _ _ _ (by omega)]; with_reducible assumption) | (simp [go_sem, *]; done)); have n3 : w0.cell? ⟨g, 1, none⟩ = some (.int .i64 b) := (hb.cells _ _ (by first | with_reducible assumption | omega | (simp; done) | (simp; omega))).trans (by first | with_reducible assumption | (simp; done) | (simp; with_reducible assumption) | (rw [cell_alloc_before _ _ _ _ (by omega)]; with_reducible assumption) | (simp [go_sem, *]; done)); (first | (have nx := Ext.trans hx hb; clear hx) | (have nx := Ext.trans (hx.alloc _) hb; clear hx) | (have nx := Ext.trans hx.drew hb; clear hx) | have nx := hb); clear hb; try clear hs; try clear g0; try clear g1; try clear g2; try clear g3; have hx := nx; clear nx; have hs := ns; clear ns; have g0 := n0; clear n0; have g1 := n1; clear n1; have g2 := n2; clear n2; have g3 := n3; clear n3)
  have own0 := (World.ownsRow_lit (base := w0.heap.size) (e := 54) (size := 1) w0 #[] 0 (by simp) (by decide) rfl)
  have hs0 := ns
  have hgA : g < w0.heap.size := by omega
  have hwA : w.heap.size < w0.heap.size := by omega
  have k0 := (cell_alloc_before w0 (.cells #[] 54) _ 0 hwA).trans n0
  have k1 := (cell_alloc_before w0 (.cells #[] 54) _ 1 hwA).trans n1
  have k2 := (cell_alloc_before w0 (.cells #[] 54) _ 0 hgA).trans n2
  have k3 := (cell_alloc_before w0 (.cells #[] 54) _ 1 hgA).trans n3
  have OWN := Lib.hid own0; clear own0
  refine wp_loop_rounds 3 ?_
  rw [rounds_succ]
  go_wp2_with (first | (go_at_call 41; (with_reducible refine (iUnitsOf_yes e f a ha _).mono ?_); rintro rv w1 ⟨rfl, hb⟩; (first | (have OWN9 := Lib.hid (own_ext OWN.out hb); clear OWN; have OWN := OWN9; clear OWN9) | (have OWN9 := Lib.hid (own_ext (own_ext OWN.out (Ext.new _ _)) hb); clear OWN; have OWN := OWN9; clear OWN9)); have ns : w0.heap.size < w1.heap.size := hb.lt (by first | with_reducible assumption | omega | (simp; done) | (simp; omega)); have n0 : w1.cell? ⟨w.heap.size, 0, none⟩ = some (.int .i64 e) := (hb.cells _ _ (by first | with_reducible assumption | omega | (simp; done) | (simp; omega))).trans (by first | with_reducible assumption | (simp; done) | (simp; with_reducible assumption) | (rw [cell_alloc_before _ _ _ _ (by omega)]; with_reducible assumption) | (simp [go_sem, *]; done)); have n1 : w1.cell? ⟨w.heap.size, 1, none⟩ = some (.int .i64 f) := (hb.cells _ _ (by first | with_reducible assumption | omega | (simp; done) | (simp; omega))).trans (by first | with_reducible assumption | (simp; done) | (simp; with_reducible assumption) | (rw [cell_alloc_before _ _ _ _ (by omega)]; with_reducible assumption) | (simp [go_sem, *]; done)); have n2 : w1.cell? ⟨g, 0, none⟩ = some (.int .i64 a) := (hb.cells _ _ (by first | with_reducible assumption | omega | (simp; done) | (simp; omega))).trans (by first | with_reducible assumption | (simp; done) | (simp; with_reducible assumption) | (rw [cell_alloc_before _ _ _ _ (by omega)]; with_reducible assumption) | (simp [go_sem, *]; done)); have n3 : w1.cell? ⟨g, 1, none⟩ = some (.int .i64 b) := (hb.cells _ _ (by first | with_reducible assumption | omega | (simp; done) | (simp; omega))).trans (by first | with_reducible assumption | (simp; done) | (simp; with_reducible assumption) | (rw [cell_alloc_before _ _ _ _ (by omega)]; with_reducible assumption) | (simp [go_sem, *]; done)); (first | (have nx := Ext.trans hx hb; clear hx) | (have nx := Ext.trans (hx.alloc _) hb; clear hx) | (have nx := Ext.trans hx.drew hb; clear hx) | have nx := hb); clear hb; try clear hs; try clear g0; try clear g1; try clear g2; try clear g3; have hx := nx; clear nx; have hs := ns; clear ns; have g0 := n0; clear n0; have g1 := n1; clear n1; have g2 := n2; clear n2; have g3 := n3; clear n3) | (at_builtin; (refine wpList_append_own _ rfl (.tmp 34) (.tmp 37) 50 rfl (w0.heap.size) 54 i _ 1 4 Try.underlying50 HI.out HZ.out HSZ.out HBY.out rfl (by decide) (.slice (some ⟨w0.heap.size, 0, none⟩) 0 0) 0 [] rfl (own_ext OWN.out (Ext.new _ _)) _ 1 1 [(.float .f32 (floatOfInt .f32 (unitsV e f a)))] rfl rfl (fun j u hj => by cases j with | zero => (simp at hj; subst hj; simp [go_sem, Addr.add]) | succ j => simp at hj) (by simp [Value.oneCell']) (by simp [maxLen]) (by omega) (by simp; omega) ?_); intro v9 w9 OWN8 hgr _; have hne : ∀ k, k < w0.heap.size → some k ≠ Value.ownBlock (.slice (some ⟨w0.heap.size, 0, none⟩) 0 0) := fun k hk h => (by have := (World.ownsRow.lt OWN.out _ h.symm).1; omega); have c0 : w9.cell? ⟨w.heap.size, 0, none⟩ = some (.int .i64 e) := hgr.cell ((cell_alloc_before _ _ (w.heap.size) 0 (by omega)).trans (by with_reducible assumption)) (hne (w.heap.size) (by omega)); have c1 : w9.cell? ⟨w.heap.size, 1, none⟩ = some (.int .i64 f) := hgr.cell ((cell_alloc_before _ _ (w.heap.size) 1 (by omega)).trans (by with_reducible assumption)) (hne (w.heap.size) (by omega)); have c2 : w9.cell? ⟨g, 0, none⟩ = some (.int .i64 a) := hgr.cell ((cell_alloc_before _ _ (g) 0 (by omega)).trans (by with_reducible assumption)) (hne (g) (by omega)); have c3 : w9.cell? ⟨g, 1, none⟩ = some (.int .i64 b) := hgr.cell ((cell_alloc_before _ _ (g) 1 (by omega)).trans (by with_reducible assumption)) (hne (g) (by omega)); have sz : w1.heap.size + 1 ≤ w9.heap.size := (by have h := hgr.size; rwa [World.size_alloc] at h); have hs9 : w0.heap.size < w9.heap.size := (by omega); have hx9 : Ext w w9 := ext_grown (by repeat (first | exact Ext.refl _ | with_reducible assumption | apply Ext.alloc | apply Ext.drew | apply Ext.drewN | (refine Ext.setRow ?_ (by first | (simp; done) | (simp; omega) | omega) _) | (refine Ext.setCell ?_ (by first | (simp; done) | (simp; omega) | omega) _) | (refine Ext.trans ?_ (by with_reducible assumption)))) hgr (fun k hk => by have := (World.ownsRow.lt OWN.out k hk).1; omega); have OWN7 : RowKit.Hid (w9.ownsRow w0.heap.size 54 1 v9 1 [(.float .f32 (floatOfInt .f32 (unitsV e f a)))]) := OWN8; clear OWN OWN8 hne hgr; have OWN := OWN7; clear OWN7))
  rw [rounds_succ]
  go_wp2_with (first | (go_at_call 41; (with_reducible refine (iUnitsOf_yes e f b hb2 _).mono ?_); rintro rv w1 ⟨rfl, hb⟩; (first | (have OWN9 := Lib.hid (own_ext OWN.out hb); clear OWN; have OWN := OWN9; clear OWN9) | (have OWN9 := Lib.hid (own_ext (own_ext OWN.out (Ext.new _ _)) hb); clear OWN; have OWN := OWN9; clear OWN9)); have ns : w0.heap.size < w1.heap.size := hb.lt (by first | with_reducible assumption | omega | (simp; done) | (simp; omega)); have n0 : w1.cell? ⟨w.heap.size, 0, none⟩ = some (.int .i64 e) := (hb.cells _ _ (by first | with_reducible assumption | omega | (simp; done) | (simp; omega))).trans (by first | with_reducible assumption | (simp; done) | (simp; with_reducible assumption) | (rw [cell_alloc_before _ _ _ _ (by omega)]; with_reducible assumption) | (simp [go_sem, *]; done)); have n1 : w1.cell? ⟨w.heap.size, 1, none⟩ = some (.int .i64 f) := (hb.cells _ _ (by first | with_reducible assumption | omega | (simp; done) | (simp; omega))).trans (by first | with_reducible assumption | (simp; done) | (simp; with_reducible assumption) | (rw [cell_alloc_before _ _ _ _ (by omega)]; with_reducible assumption) | (simp [go_sem, *]; done)); have n2 : w1.cell? ⟨g, 0, none⟩ = some (.int .i64 a) := (hb.cells _ _ (by first | with_reducible assumption | omega | (simp; done) | (simp; omega))).trans (by first | with_reducible assumption | (simp; done) | (simp; with_reducible assumption) | (rw [cell_alloc_before _ _ _ _ (by omega)]; with_reducible assumption) | (simp [go_sem, *]; done)); have n3 : w1.cell? ⟨g, 1, none⟩ = some (.int .i64 b) := (hb.cells _ _ (by first | with_reducible assumption | omega | (simp; done) | (simp; omega))).trans (by first | with_reducible assumption | (simp; done) | (simp; with_reducible assumption) | (rw [cell_alloc_before _ _ _ _ (by omega)]; with_reducible assumption) | (simp [go_sem, *]; done)); (first | (have nx := Ext.trans hx hb; clear hx) | (have nx := Ext.trans (hx.alloc _) hb; clear hx) | (have nx := Ext.trans hx.drew hb; clear hx) | have nx := hb); clear hb; try clear hs; try clear g0; try clear g1; try clear g2; try clear g3; have hx := nx; clear nx; have hs := ns; clear ns; have g0 := n0; clear n0; have g1 := n1; clear n1; have g2 := n2; clear n2; have g3 := n3; clear n3) | (at_builtin; (refine wpList_append_own _ rfl (.tmp 34) (.tmp 37) 50 rfl (w0.heap.size) 54 i _ 1 4 Try.underlying50 HI.out HZ.out HSZ.out HBY.out rfl (by decide) v9 1 [(.float .f32 (floatOfInt .f32 (unitsV e f a)))] rfl (own_ext OWN.out (Ext.new _ _)) _ 1 1 [(.float .f32 (floatOfInt .f32 (unitsV e f b)))] rfl rfl (fun j u hj => by cases j with | zero => (simp at hj; subst hj; simp [go_sem, Addr.add]) | succ j => simp at hj) (by simp [Value.oneCell']) (by simp [maxLen]) (by omega) (by simp; omega) ?_); intro v8 w8 OWN8 hgr _; have hne : ∀ k, k < w0.heap.size → some k ≠ Value.ownBlock v9 := fun k hk h => (by have := (World.ownsRow.lt OWN.out _ h.symm).1; omega); have c0 : w8.cell? ⟨w.heap.size, 0, none⟩ = some (.int .i64 e) := hgr.cell ((cell_alloc_before _ _ (w.heap.size) 0 (by omega)).trans (by with_reducible assumption)) (hne (w.heap.size) (by omega)); have c1 : w8.cell? ⟨w.heap.size, 1, none⟩ = some (.int .i64 f) := hgr.cell ((cell_alloc_before _ _ (w.heap.size) 1 (by omega)).trans (by with_reducible assumption)) (hne (w.heap.size) (by omega)); have c2 : w8.cell? ⟨g, 0, none⟩ = some (.int .i64 a) := hgr.cell ((cell_alloc_before _ _ (g) 0 (by omega)).trans (by with_reducible assumption)) (hne (g) (by omega)); have c3 : w8.cell? ⟨g, 1, none⟩ = some (.int .i64 b) := hgr.cell ((cell_alloc_before _ _ (g) 1 (by omega)).trans (by with_reducible assumption)) (hne (g) (by omega)); have sz : w1.heap.size + 1 ≤ w8.heap.size := (by have h := hgr.size; rwa [World.size_alloc] at h); have hs9 : w0.heap.size < w8.heap.size := (by omega); have hx9 : Ext w w8 := ext_grown (by repeat (first | exact Ext.refl _ | with_reducible assumption | apply Ext.alloc | apply Ext.drew | apply Ext.drewN | (refine Ext.setRow ?_ (by first | (simp; done) | (simp; omega) | omega) _) | (refine Ext.setCell ?_ (by first | (simp; done) | (simp; omega) | omega) _) | (refine Ext.trans ?_ (by with_reducible assumption)))) hgr (fun k hk => by have := (World.ownsRow.lt OWN.out k hk).1; omega); have OWN7 : RowKit.Hid (w8.ownsRow w0.heap.size 54 1 v8 2 [(.float .f32 (floatOfInt .f32 (unitsV e f a))), (.float .f32 (floatOfInt .f32 (unitsV e f b)))]) := OWN8; clear OWN OWN8 hne hgr; have OWN := OWN7; clear OWN7))
  rw [rounds_succ]
  go_wp2_with fail
  go_ret2
  exact ⟨v8, _, rfl, by omega, OWN.out, (by repeat (first | exact Ext.refl _ | with_reducible assumption | apply Ext.alloc | apply Ext.drew | apply Ext.drewN | (refine Ext.setRow ?_ (by first | (simp; done) | (simp; omega) | omega) _) | (refine Ext.setCell ?_ (by first | (simp; done) | (simp; omega) | omega) _) | (refine Ext.trans ?_ (by with_reducible assumption))))⟩

/-- What the values of two patterns are. -/
def VO2 (e f a b : Int) (w : World) (rv : Ending) (w' : World) : Prop := ∃ gl cap, rv = .returned (.tuple #[.slice (some ⟨gl, 0, none⟩) 2 cap, .bool true]) ∧ w.heap.size ≤ gl ∧ gl < w'.heap.size ∧ w'.cell? ⟨gl, 0, none⟩ = some (.float .f32 (floatOfInt .f32 (unitsV e f a))) ∧ w'.cell? ⟨gl, 1, none⟩ = some (.float .f32 (floatOfInt .f32 (unitsV e f b))) ∧ Ext w w'

theorem valuesOf2 (e f a b : Int) (g : Nat) (ha : finB e f a = true) (hb2 : finB e f b = true) (w : World) (ca : w.cell? ⟨g, 0, none⟩ = some (.int .i64 a)) (cb : w.cell? ⟨g, 1, none⟩ = some (.int .i64 b)) (hg : g < w.heap.size) :
    Calls Try.prog 61 #[fmt e f, .slice (some ⟨g, 0, none⟩) 2 2] w (VO2 e f a b w) := by
  refine (valuesOf2_ e f a b g (pat_iff.1 (fin_pat ha).1).1 ha hb2 w ca cb hg).mono ?_
  rintro rv w' ⟨v, B, rfl, hB, how, hb⟩
  obtain ⟨gl, cap, rfl, hg1, hg2⟩ := how.form (by omega)
  have c0 := how.cellAt 0 (by omega)
  have c1 := how.cellAt 1 (by omega)
  simp only [List.getElem?_cons_zero, List.getElem?_cons_succ] at c0 c1
  exact ⟨gl, cap, rfl, by omega, by omega, c0, c1, hb⟩

set_option maxHeartbeats 3200000 in
theorem valuesOf2_na (e f a b : Int) (g : Nat) (hg1 : goodB e f = true) (hn : finB e f a = false) (w : World) (ca : w.cell? ⟨g, 0, none⟩ = some (.int .i64 a)) (cb : w.cell? ⟨g, 1, none⟩ = some (.int .i64 b)) (hg : g < w.heap.size) :
    Calls Try.prog 61 #[fmt e f, .slice (some ⟨g, 0, none⟩) 2 2] w fun rv w' => rv = .returned (.tuple #[.slice none 0 0, .bool false]) ∧ Ext w w' := by
  obtain ⟨i, hi, hz, hsz, hby⟩ : ∃ i, Try.prog.info? 54 = some i ∧ i.zero = some (Value.float .f32 0) ∧ i.size = 1 ∧ i.bytes = 4 := by
    cases h : Try.prog.info? 54 with
    | none => exact absurd h (by have : (Try.prog.info? 54).isSome = true := by kernel_rfl
                                 intro h2; rw [h2] at this; cases this)
    | some i =>
      refine ⟨i, rfl, ?_, ?_, ?_⟩
      · have : (Try.prog.info? 54).map (·.zero) = some (some (Value.float .f32 0)) := by kernel_rfl
        rw [h] at this; exact Option.some.inj this
      · have : (Try.prog.info? 54).map (·.size) = some 1 := by kernel_rfl
        rw [h] at this; exact Option.some.inj this
      · have : (Try.prog.info? 54).map (·.bytes) = some 4 := by kernel_rfl
        rw [h] at this; exact Option.some.inj this
  have HI := Lib.hid hi; have HZ := Lib.hid hz; have HSZ := Lib.hid hsz; have HBY := Lib.hid hby; clear hi hz hsz hby
  go_enter Try.func61, Try.ntmps61
  go_wp2_with (go_at_call 55; refine (isFormat_any e f _).mono ?_; rintro rv w0 ⟨rfl, hb⟩; have ns : max w.heap.size g < w0.heap.size := hb.lt (by first | with_reducible assumption | omega | (simp; done) | (simp; omega)); have n0 : w0.cell? ⟨w.heap.size, 0, none⟩ = some (.int .i64 e) := (hb.cells _ _ (by first | with_reducible assumption | omega | (simp; done) | (simp; omega))).trans (by first | with_reducible assumption | (simp; done) | (simp; with_reducible assumption) | (rw [cell_alloc_before _ _ _ _ (by omega)]; with_reducible assumption) | (simp [go_sem, *]; done)); have n1 : w0.cell? ⟨w.heap.size, 1, none⟩ = some (.int .i64 f) := (hb.cells _ _ (by first | with_reducible assumption | omega | (simp; done) | (simp; omega))).trans (by first | with_reducible assumption | (simp; done) | (simp; with_reducible assumption) | (rw [cell_alloc_before _ _ _ _ (by omega)]; with_reducible assumption) | (simp [go_sem, *]; done)); have n2 : w0.cell? ⟨g, 0, none⟩ = some (.int .i64 a) := (hb.cells _ _ (by first | with_reducible assumption | omega | (simp; done) | (simp; omega))).trans (by first | with_reducible assumption | (simp; done) | (simp; with_reducible assumption) | (rw [cell_alloc_before _ _ _ _ (by omega)]; with_reducible assumption) | (simp [go_sem, *]; done)); have n3 : w0.cell? ⟨g, 1, none⟩ = some (.int .i64 b) := (hb.cells _ _ (by first | with_reducible assumption | omega | (simp; done) | (simp; omega))).trans (by first | with_reducible assumption | (simp; done) | (simp; with_reducible assumption) | (rw [cell_alloc_before _ _ _ _ (by omega)]; with_reducible assumption) | (simp [go_sem, *]; done)); (first | (have nx := Ext.trans hx hb; clear hx) | (have nx := Ext.trans (hx.alloc _) hb; clear hx) | (have nx := Ext.trans hx.drew hb; clear hx) | have nx := hb); clear hb; try clear hs; try clear g0; try clear g1; try clear g2; try clear g3; have hx := nx; clear nx; have hs := ns; clear ns; have g0 := n0; clear n0; have g1 := n1; clear n1; have g2 := n2; clear n2; have g3 := n3; clear n3)
  have own0 := (World.ownsRow_lit (base := w0.heap.size) (e := 54) (size := 1) w0 #[] 0 (by simp) (by decide) rfl)
  have hs0 := ns
  have hgA : g < w0.heap.size := by omega
  have hwA : w.heap.size < w0.heap.size := by omega
  have k0 := (cell_alloc_before w0 (.cells #[] 54) _ 0 hwA).trans n0
  have k1 := (cell_alloc_before w0 (.cells #[] 54) _ 1 hwA).trans n1
  have k2 := (cell_alloc_before w0 (.cells #[] 54) _ 0 hgA).trans n2
  have k3 := (cell_alloc_before w0 (.cells #[] 54) _ 1 hgA).trans n3
  have OWN := Lib.hid own0; clear own0
  refine wp_loop_rounds 3 ?_
  rw [rounds_succ]
  go_wp2_with (first | (go_at_call 41; (with_reducible refine (iUnitsOf_no e f _ hn _).mono ?_); rintro rv w1 ⟨rfl, hb⟩; have ns : w0.heap.size < w1.heap.size := hb.lt (by first | with_reducible assumption | omega | (simp; done) | (simp; omega)); have n0 : w1.cell? ⟨w.heap.size, 0, none⟩ = some (.int .i64 e) := (hb.cells _ _ (by first | with_reducible assumption | omega | (simp; done) | (simp; omega))).trans (by first | with_reducible assumption | (simp; done) | (simp; with_reducible assumption) | (rw [cell_alloc_before _ _ _ _ (by omega)]; with_reducible assumption) | (simp [go_sem, *]; done)); have n1 : w1.cell? ⟨w.heap.size, 1, none⟩ = some (.int .i64 f) := (hb.cells _ _ (by first | with_reducible assumption | omega | (simp; done) | (simp; omega))).trans (by first | with_reducible assumption | (simp; done) | (simp; with_reducible assumption) | (rw [cell_alloc_before _ _ _ _ (by omega)]; with_reducible assumption) | (simp [go_sem, *]; done)); have n2 : w1.cell? ⟨g, 0, none⟩ = some (.int .i64 a) := (hb.cells _ _ (by first | with_reducible assumption | omega | (simp; done) | (simp; omega))).trans (by first | with_reducible assumption | (simp; done) | (simp; with_reducible assumption) | (rw [cell_alloc_before _ _ _ _ (by omega)]; with_reducible assumption) | (simp [go_sem, *]; done)); have n3 : w1.cell? ⟨g, 1, none⟩ = some (.int .i64 b) := (hb.cells _ _ (by first | with_reducible assumption | omega | (simp; done) | (simp; omega))).trans (by first | with_reducible assumption | (simp; done) | (simp; with_reducible assumption) | (rw [cell_alloc_before _ _ _ _ (by omega)]; with_reducible assumption) | (simp [go_sem, *]; done)); (first | (have nx := Ext.trans hx hb; clear hx) | (have nx := Ext.trans (hx.alloc _) hb; clear hx) | (have nx := Ext.trans hx.drew hb; clear hx) | have nx := hb); clear hb; try clear hs; try clear g0; try clear g1; try clear g2; try clear g3; have hx := nx; clear nx; have hs := ns; clear ns; have g0 := n0; clear n0; have g1 := n1; clear n1; have g2 := n2; clear n2; have g3 := n3; clear n3))
  go_ret2
  exact ⟨rfl, (by repeat (first | exact Ext.refl _ | with_reducible assumption | apply Ext.alloc | apply Ext.drew | apply Ext.drewN | (refine Ext.setRow ?_ (by first | (simp; done) | (simp; omega) | omega) _) | (refine Ext.setCell ?_ (by first | (simp; done) | (simp; omega) | omega) _) | (refine Ext.trans ?_ (by with_reducible assumption))))⟩

set_option maxHeartbeats 3200000 in
theorem valuesOf2_nb (e f a b : Int) (g : Nat) (hg1 : goodB e f = true) (ha : finB e f a = true) (hn : finB e f b = false) (w : World) (ca : w.cell? ⟨g, 0, none⟩ = some (.int .i64 a)) (cb : w.cell? ⟨g, 1, none⟩ = some (.int .i64 b)) (hg : g < w.heap.size) :
    Calls Try.prog 61 #[fmt e f, .slice (some ⟨g, 0, none⟩) 2 2] w fun rv w' => rv = .returned (.tuple #[.slice none 0 0, .bool false]) ∧ Ext w w' := by
  obtain ⟨i, hi, hz, hsz, hby⟩ : ∃ i, Try.prog.info? 54 = some i ∧ i.zero = some (Value.float .f32 0) ∧ i.size = 1 ∧ i.bytes = 4 := by
    cases h : Try.prog.info? 54 with
    | none => exact absurd h (by have : (Try.prog.info? 54).isSome = true := by kernel_rfl
                                 intro h2; rw [h2] at this; cases this)
    | some i =>
      refine ⟨i, rfl, ?_, ?_, ?_⟩
      · have : (Try.prog.info? 54).map (·.zero) = some (some (Value.float .f32 0)) := by kernel_rfl
        rw [h] at this; exact Option.some.inj this
      · have : (Try.prog.info? 54).map (·.size) = some 1 := by kernel_rfl
        rw [h] at this; exact Option.some.inj this
      · have : (Try.prog.info? 54).map (·.bytes) = some 4 := by kernel_rfl
        rw [h] at this; exact Option.some.inj this
  have HI := Lib.hid hi; have HZ := Lib.hid hz; have HSZ := Lib.hid hsz; have HBY := Lib.hid hby; clear hi hz hsz hby
  go_enter Try.func61, Try.ntmps61
  go_wp2_with (go_at_call 55; refine (isFormat_any e f _).mono ?_; rintro rv w0 ⟨rfl, hb⟩; have ns : max w.heap.size g < w0.heap.size := hb.lt (by first | with_reducible assumption | omega | (simp; done) | (simp; omega)); have n0 : w0.cell? ⟨w.heap.size, 0, none⟩ = some (.int .i64 e) := (hb.cells _ _ (by first | with_reducible assumption | omega | (simp; done) | (simp; omega))).trans (by first | with_reducible assumption | (simp; done) | (simp; with_reducible assumption) | (rw [cell_alloc_before _ _ _ _ (by omega)]; with_reducible assumption) | (simp [go_sem, *]; done)); have n1 : w0.cell? ⟨w.heap.size, 1, none⟩ = some (.int .i64 f) := (hb.cells _ _ (by first | with_reducible assumption | omega | (simp; done) | (simp; omega))).trans (by first | with_reducible assumption | (simp; done) | (simp; with_reducible assumption) | (rw [cell_alloc_before _ _ _ _ (by omega)]; with_reducible assumption) | (simp [go_sem, *]; done)); have n2 : w0.cell? ⟨g, 0, none⟩ = some (.int .i64 a) := (hb.cells _ _ (by first | with_reducible assumption | omega | (simp; done) | (simp; omega))).trans (by first | with_reducible assumption | (simp; done) | (simp; with_reducible assumption) | (rw [cell_alloc_before _ _ _ _ (by omega)]; with_reducible assumption) | (simp [go_sem, *]; done)); have n3 : w0.cell? ⟨g, 1, none⟩ = some (.int .i64 b) := (hb.cells _ _ (by first | with_reducible assumption | omega | (simp; done) | (simp; omega))).trans (by first | with_reducible assumption | (simp; done) | (simp; with_reducible assumption) | (rw [cell_alloc_before _ _ _ _ (by omega)]; with_reducible assumption) | (simp [go_sem, *]; done)); (first | (have nx := Ext.trans hx hb; clear hx) | (have nx := Ext.trans (hx.alloc _) hb; clear hx) | (have nx := Ext.trans hx.drew hb; clear hx) | have nx := hb); clear hb; try clear hs; try clear g0; try clear g1; try clear g2; try clear g3; have hx := nx; clear nx; have hs := ns; clear ns; have g0 := n0; clear n0; have g1 := n1; clear n1; have g2 := n2; clear n2; have g3 := n3; clear n3)
  have own0 := (World.ownsRow_lit (base := w0.heap.size) (e := 54) (size := 1) w0 #[] 0 (by simp) (by decide) rfl)
  have hs0 := ns
  have hgA : g < w0.heap.size := by omega
  have hwA : w.heap.size < w0.heap.size := by omega
  have k0 := (cell_alloc_before w0 (.cells #[] 54) _ 0 hwA).trans n0
  have k1 := (cell_alloc_before w0 (.cells #[] 54) _ 1 hwA).trans n1
  have k2 := (cell_alloc_before w0 (.cells #[] 54) _ 0 hgA).trans n2
  have k3 := (cell_alloc_before w0 (.cells #[] 54) _ 1 hgA).trans n3
  have OWN := Lib.hid own0; clear own0
  refine wp_loop_rounds 3 ?_
  rw [rounds_succ]
  go_wp2_with (first | (go_at_call 41; (with_reducible refine (iUnitsOf_yes e f a ha _).mono ?_); rintro rv w1 ⟨rfl, hb⟩; (first | (have OWN9 := Lib.hid (own_ext OWN.out hb); clear OWN; have OWN := OWN9; clear OWN9) | (have OWN9 := Lib.hid (own_ext (own_ext OWN.out (Ext.new _ _)) hb); clear OWN; have OWN := OWN9; clear OWN9)); have ns : w0.heap.size < w1.heap.size := hb.lt (by first | with_reducible assumption | omega | (simp; done) | (simp; omega)); have n0 : w1.cell? ⟨w.heap.size, 0, none⟩ = some (.int .i64 e) := (hb.cells _ _ (by first | with_reducible assumption | omega | (simp; done) | (simp; omega))).trans (by first | with_reducible assumption | (simp; done) | (simp; with_reducible assumption) | (rw [cell_alloc_before _ _ _ _ (by omega)]; with_reducible assumption) | (simp [go_sem, *]; done)); have n1 : w1.cell? ⟨w.heap.size, 1, none⟩ = some (.int .i64 f) := (hb.cells _ _ (by first | with_reducible assumption | omega | (simp; done) | (simp; omega))).trans (by first | with_reducible assumption | (simp; done) | (simp; with_reducible assumption) | (rw [cell_alloc_before _ _ _ _ (by omega)]; with_reducible assumption) | (simp [go_sem, *]; done)); have n2 : w1.cell? ⟨g, 0, none⟩ = some (.int .i64 a) := (hb.cells _ _ (by first | with_reducible assumption | omega | (simp; done) | (simp; omega))).trans (by first | with_reducible assumption | (simp; done) | (simp; with_reducible assumption) | (rw [cell_alloc_before _ _ _ _ (by omega)]; with_reducible assumption) | (simp [go_sem, *]; done)); have n3 : w1.cell? ⟨g, 1, none⟩ = some (.int .i64 b) := (hb.cells _ _ (by first | with_reducible assumption | omega | (simp; done) | (simp; omega))).trans (by first | with_reducible assumption | (simp; done) | (simp; with_reducible assumption) | (rw [cell_alloc_before _ _ _ _ (by omega)]; with_reducible assumption) | (simp [go_sem, *]; done)); (first | (have nx := Ext.trans hx hb; clear hx) | (have nx := Ext.trans (hx.alloc _) hb; clear hx) | (have nx := Ext.trans hx.drew hb; clear hx) | have nx := hb); clear hb; try clear hs; try clear g0; try clear g1; try clear g2; try clear g3; have hx := nx; clear nx; have hs := ns; clear ns; have g0 := n0; clear n0; have g1 := n1; clear n1; have g2 := n2; clear n2; have g3 := n3; clear n3) | (at_builtin; (refine wpList_append_own _ rfl (.tmp 34) (.tmp 37) 50 rfl (w0.heap.size) 54 i _ 1 4 Try.underlying50 HI.out HZ.out HSZ.out HBY.out rfl (by decide) (.slice (some ⟨w0.heap.size, 0, none⟩) 0 0) 0 [] rfl (own_ext OWN.out (Ext.new _ _)) _ 1 1 [(.float .f32 (floatOfInt .f32 (unitsV e f a)))] rfl rfl (fun j u hj => by cases j with | zero => (simp at hj; subst hj; simp [go_sem, Addr.add]) | succ j => simp at hj) (by simp [Value.oneCell']) (by simp [maxLen]) (by omega) (by simp; omega) ?_); intro v9 w9 OWN8 hgr _; have hne : ∀ k, k < w0.heap.size → some k ≠ Value.ownBlock (.slice (some ⟨w0.heap.size, 0, none⟩) 0 0) := fun k hk h => (by have := (World.ownsRow.lt OWN.out _ h.symm).1; omega); have c0 : w9.cell? ⟨w.heap.size, 0, none⟩ = some (.int .i64 e) := hgr.cell ((cell_alloc_before _ _ (w.heap.size) 0 (by omega)).trans (by with_reducible assumption)) (hne (w.heap.size) (by omega)); have c1 : w9.cell? ⟨w.heap.size, 1, none⟩ = some (.int .i64 f) := hgr.cell ((cell_alloc_before _ _ (w.heap.size) 1 (by omega)).trans (by with_reducible assumption)) (hne (w.heap.size) (by omega)); have c2 : w9.cell? ⟨g, 0, none⟩ = some (.int .i64 a) := hgr.cell ((cell_alloc_before _ _ (g) 0 (by omega)).trans (by with_reducible assumption)) (hne (g) (by omega)); have c3 : w9.cell? ⟨g, 1, none⟩ = some (.int .i64 b) := hgr.cell ((cell_alloc_before _ _ (g) 1 (by omega)).trans (by with_reducible assumption)) (hne (g) (by omega)); have sz : w1.heap.size + 1 ≤ w9.heap.size := (by have h := hgr.size; rwa [World.size_alloc] at h); have hs9 : w0.heap.size < w9.heap.size := (by omega); have hx9 : Ext w w9 := ext_grown (by repeat (first | exact Ext.refl _ | with_reducible assumption | apply Ext.alloc | apply Ext.drew | apply Ext.drewN | (refine Ext.setRow ?_ (by first | (simp; done) | (simp; omega) | omega) _) | (refine Ext.setCell ?_ (by first | (simp; done) | (simp; omega) | omega) _) | (refine Ext.trans ?_ (by with_reducible assumption)))) hgr (fun k hk => by have := (World.ownsRow.lt OWN.out k hk).1; omega); have OWN7 : RowKit.Hid (w9.ownsRow w0.heap.size 54 1 v9 1 [(.float .f32 (floatOfInt .f32 (unitsV e f a)))]) := OWN8; clear OWN OWN8 hne hgr; have OWN := OWN7; clear OWN7))
  rw [rounds_succ]
  go_wp2_with (first | (go_at_call 41; (with_reducible refine (iUnitsOf_no e f _ hn _).mono ?_); rintro rv w1 ⟨rfl, hb⟩; have ns : w0.heap.size < w1.heap.size := hb.lt (by first | with_reducible assumption | omega | (simp; done) | (simp; omega)); have n0 : w1.cell? ⟨w.heap.size, 0, none⟩ = some (.int .i64 e) := (hb.cells _ _ (by first | with_reducible assumption | omega | (simp; done) | (simp; omega))).trans (by first | with_reducible assumption | (simp; done) | (simp; with_reducible assumption) | (rw [cell_alloc_before _ _ _ _ (by omega)]; with_reducible assumption) | (simp [go_sem, *]; done)); have n1 : w1.cell? ⟨w.heap.size, 1, none⟩ = some (.int .i64 f) := (hb.cells _ _ (by first | with_reducible assumption | omega | (simp; done) | (simp; omega))).trans (by first | with_reducible assumption | (simp; done) | (simp; with_reducible assumption) | (rw [cell_alloc_before _ _ _ _ (by omega)]; with_reducible assumption) | (simp [go_sem, *]; done)); have n2 : w1.cell? ⟨g, 0, none⟩ = some (.int .i64 a) := (hb.cells _ _ (by first | with_reducible assumption | omega | (simp; done) | (simp; omega))).trans (by first | with_reducible assumption | (simp; done) | (simp; with_reducible assumption) | (rw [cell_alloc_before _ _ _ _ (by omega)]; with_reducible assumption) | (simp [go_sem, *]; done)); have n3 : w1.cell? ⟨g, 1, none⟩ = some (.int .i64 b) := (hb.cells _ _ (by first | with_reducible assumption | omega | (simp; done) | (simp; omega))).trans (by first | with_reducible assumption | (simp; done) | (simp; with_reducible assumption) | (rw [cell_alloc_before _ _ _ _ (by omega)]; with_reducible assumption) | (simp [go_sem, *]; done)); (first | (have nx := Ext.trans hx hb; clear hx) | (have nx := Ext.trans (hx.alloc _) hb; clear hx) | (have nx := Ext.trans hx.drew hb; clear hx) | have nx := hb); clear hb; try clear hs; try clear g0; try clear g1; try clear g2; try clear g3; have hx := nx; clear nx; have hs := ns; clear ns; have g0 := n0; clear n0; have g1 := n1; clear n1; have g2 := n2; clear n2; have g3 := n3; clear n3))
  go_ret2
  exact ⟨rfl, (by repeat (first | exact Ext.refl _ | with_reducible assumption | apply Ext.alloc | apply Ext.drew | apply Ext.drewN | (refine Ext.setRow ?_ (by first | (simp; done) | (simp; omega) | omega) _) | (refine Ext.setCell ?_ (by first | (simp; done) | (simp; omega) | omega) _) | (refine Ext.trans ?_ (by with_reducible assumption))))⟩

theorem valuesOf2_bad (e f : Int) (v : Value) (hg1 : goodB e f = false) (w : World) : Calls Try.prog 61 #[fmt e f, v] w fun rv w' => rv = .returned (.tuple #[.slice none 0 0, .bool false]) ∧ Ext w w' := by
  go_enter Try.func61, Try.ntmps61
  go_wp2_with (go_at_call 55; refine (isFormat_any e f _).mono ?_; rintro rv w1 ⟨rfl, hb⟩; have ns : w.heap.size < w1.heap.size := hb.lt (by first | with_reducible assumption | omega | (simp; done) | (simp; omega)); have n0 : w1.cell? ⟨w.heap.size, 0, none⟩ = some (.int .i64 e) := (hb.cells _ _ (by first | with_reducible assumption | omega | (simp; done) | (simp; omega))).trans (by first | with_reducible assumption | (simp; done) | (simp; with_reducible assumption) | (rw [cell_alloc_before _ _ _ _ (by omega)]; with_reducible assumption) | (simp [go_sem, *]; done)); have n1 : w1.cell? ⟨w.heap.size, 1, none⟩ = some (.int .i64 f) := (hb.cells _ _ (by first | with_reducible assumption | omega | (simp; done) | (simp; omega))).trans (by first | with_reducible assumption | (simp; done) | (simp; with_reducible assumption) | (rw [cell_alloc_before _ _ _ _ (by omega)]; with_reducible assumption) | (simp [go_sem, *]; done)); (first | (have nx := Ext.trans hx hb; clear hx) | (have nx := Ext.trans (hx.alloc _) hb; clear hx) | (have nx := Ext.trans hx.drew hb; clear hx) | have nx := hb); clear hb; try clear hs; try clear g0; try clear g1; have hx := nx; clear nx; have hs := ns; clear ns; have g0 := n0; clear n0; have g1 := n1; clear n1)
  go_ret2
  exact ⟨rfl, (by repeat (first | exact Ext.refl _ | with_reducible assumption | apply Ext.alloc | apply Ext.drew | apply Ext.drewN | (refine Ext.setRow ?_ (by first | (simp; done) | (simp; omega) | omega) _) | (refine Ext.setCell ?_ (by first | (simp; done) | (simp; omega) | omega) _) | (refine Ext.trans ?_ (by with_reducible assumption))))⟩

theorem valuesOf2_no (e f a b : Int) (g : Nat) (h : (finB e f a && finB e f b) = false) (w : World) (ca : w.cell? ⟨g, 0, none⟩ = some (.int .i64 a)) (cb : w.cell? ⟨g, 1, none⟩ = some (.int .i64 b)) (hg : g < w.heap.size) :
    Calls Try.prog 61 #[fmt e f, .slice (some ⟨g, 0, none⟩) 2 2] w fun rv w' => rv = .returned (.tuple #[.slice none 0 0, .bool false]) ∧ Ext w w' := by
  cases hg1 : goodB e f
  · exact valuesOf2_bad e f _ hg1 w
  · cases ha : finB e f a
    · exact valuesOf2_na e f a b g hg1 ha w ca cb hg
    · exact valuesOf2_nb e f a b g hg1 ha (by rw [ha] at h; simpa using h) w ca cb hg

theorem archTrunc_run (y : Nat) (hn : ∃ s m i, FloatKind.f64.decode y = .number s m i) (h : FloatKind.f64.encode ((FloatKind.f64.decode y).integral .zero) = y) (w : World) : (callFunc 159 #[.float .f64 y]).run Try.prog w = .ok (.value (.float .f64 y)) w := by
  refine (run_callFunc_extern (e := Extern.MathFloor.toIntegral "math.archTrunc" .zero) Try.func159 (by kernel_rfl) (by kernel_rfl) (by kernel_rfl) (by kernel_rfl) _ w).trans ?_
  obtain ⟨s, m, i, hn⟩ := hn
  have e : Extern.MathFloor.toIntegral "math.archTrunc" .zero #[.float .f64 y] = pure (.float .f64 y) := by
    unfold Extern.MathFloor.toIntegral
    generalize FloatKind.f64.decode = D at *
    generalize FloatKind.f64.encode = E at *
    rw [hn] at h
    conv => lhs; whnf
    rw [hn]
    conv => rhs; rw [← h]
  rw [e]
  rfl

theorem trunc_any (y : Nat) (hn : ∃ s m i, FloatKind.f64.decode y = .number s m i) (h : FloatKind.f64.encode ((FloatKind.f64.decode y).integral .zero) = y) (w : World) : Calls Try.prog 123 #[.float .f64 y] w fun rv w' => rv = .returned (.float .f64 y) ∧ w = w' := by
  have q := archTrunc_run y hn h
  clear hn h
  go_enter Try.func123, Try.ntmps123
  go_wp2
  go_ret
  exact ⟨rfl, rfl⟩

theorem sizeOf_inf (s : Bool) (w : World) : Calls Try.prog 69 #[.float .f32 (Ieee.single.word s Ieee.single.infRung)] w fun rv w' => rv = .returned (.float .f32 2139095040) ∧ Ext w w' := by
  have k1 : ∀ w, (Op.unary .neg (.float .f32 (Ieee.single.word s Ieee.single.infRung))).run Try.prog w = .ok (.float .f32 (Ieee.single.word (!s) Ieee.single.infRung)) w := fun w => by
    rw [← neg_word s _ (by decide)]
    rfl
  have k2 : ∀ (ts : Array TypeId) (t : TypeId) (w : World), (Builtin.max_ ts t #[.float .f32 (Ieee.single.word s Ieee.single.infRung), .float .f32 (Ieee.single.word (!s) Ieee.single.infRung)]).run Try.prog w = .ok (.float .f32 2139095040) w := by
    intro ts t w
    cases s <;> rfl
  generalize Ieee.single.word s Ieee.single.infRung = x at *
  generalize Ieee.single.word (!s) Ieee.single.infRung = y at *
  go_enter Try.func69, Try.ntmps69
  go_wp2
  go_ret
  exact ⟨rfl, (by repeat (first | exact Ext.refl _ | with_reducible assumption | apply Ext.alloc | apply Ext.drew | apply Ext.drewN | (refine Ext.setRow ?_ (by first | (simp; done) | (simp; omega) | omega) _) | (refine Ext.setCell ?_ (by first | (simp; done) | (simp; omega) | omega) _) | (refine Ext.trans ?_ (by with_reducible assumption))))⟩

/-- The pattern of a value of u units, s being that of its size. -/
def psV (e f u s : Int) : Int := if u < 0 then pw (e + f) + s else s

theorem iPu_s (e f s u : Int) (hg : goodB e f = true) (s0 : 0 ≤ s) (s1 : s ≤ grV e f) (hu : (u.natAbs : Int) = mgV f s) (w : World) : Calls Try.prog 48 #[fmt e f, .int .i64 u] w fun rv w' => rv = .returned (.tuple #[.int .i64 (psV e f u s), .bool true]) ∧ Ext w w' := by
  have hb := mg_bd hg s0 s1
  have hm : max u (-u) = mgV f s := by omega
  have hf := (good_iff.1 hg).2.2.1
  refine (iPu_yes e f u (by unfold puB; rw [hg]; simp; omega) w).mono ?_
  rintro rv w' ⟨p, rfl, hp, hb2⟩
  have hs : IsBelow f ((pw e - 1) * pw f - 1) (max u (-u)) s := by
    refine ⟨s0, s1, by omega, ?_⟩
    have := mg_st hf s0
    right
    omega
  obtain rfl := below_one f _ _ p s hf hp hs
  have e1 : (mgV f p == max u (-u)) = true := by rw [hm]; simp
  refine ⟨?_, hb2⟩
  unfold puV psV
  rw [e1, if_pos rfl]

set_option maxHeartbeats 3200000 in
theorem pv_fin (e f s : Int) (t : Bool) (hg : goodB e f = true) (s0 : 0 ≤ s) (s1 : s ≤ grV e f) (w : World) : Calls Try.prog 62 #[fmt e f, .float .f32 (sw Ieee.single t (mgN f s))] w fun rv w' => rv = .returned (.tuple #[.int .i64 (psV e f (sv t (mgV f s).toNat) s), .bool true]) ∧ Ext w w' := by
  obtain ⟨okM, ltM⟩ := mgN_ok hg s0 s1
  have hb := mg_bd hg s0 s1
  obtain ⟨wm, okN⟩ := wide_sw false okM
  have o1 := up_lt okM ltM
  have o2 := order_same okN
  have hu : ((sv t (mgV f s).toNat).natAbs : Int) = mgV f s := by unfold sv; split <;> omega
  have hpu := fun w => iPu_s e f s _ hg s0 s1 hu w
  have hic2 := int_mg t okM (by omega)
  have htr : ∀ w, Calls Try.prog 123 #[.float .f64 (fw Ieee.double (up64 (mgN f s)))] w fun rv w' => rv = .returned (.float .f64 (fw Ieee.double (up64 (mgN f s)))) ∧ w = w' := by
    intro w
    exact trunc_any _ (up_numf okN) (trunc_mg okM) w
  have hsz := fun w => sizeOf_sw t (mgN f s) okM w
  rw [sw_pos, sw_pos] at wm
  have cv1 : ∀ w, (convert 54 80 (.float .f32 (fw Ieee.single (mgN f s)))).run Try.prog w = .ok (.float .f64 (fw Ieee.double (up64 (mgN f s)))) w := fun w =>
    run_convert_float_float w _ _ .f32 .f64 _ _ (by kernel_rfl) Try.underlying80 wm
  have cv2 : ∀ w, (convert 54 3 (.float .f32 (sw Ieee.single t (mgN f s)))).run Try.prog w = .ok (.int .i64 (sv t (mgV f s).toNat)) w := fun w =>
    run_convert_float_int w _ _ .f32 .i64 _ _ (by kernel_rfl) Try.underlying3 hic2
  clear okM ltM hb wm okN hu hic2
  generalize sv t (mgV f s).toNat = u at *
  generalize sw Ieee.single t (mgN f s) = x1 at *
  generalize fw Ieee.double (up64 (mgN f s)) = x2 at *
  generalize fw Ieee.single (mgN f s) = x3 at *
  have HTR := Lib.hid htr; clear htr
  have HSZ := Lib.hid hsz; clear hsz
  have HPU := Lib.hid hpu; clear hpu
  go_enter Try.func62, Try.ntmps62
  go_wp2_with (first | (go_at_call 69; refine (HSZ.out _).mono ?_; rintro rv w1 ⟨rfl, hb⟩; have ns : w.heap.size < w1.heap.size := hb.lt (by first | with_reducible assumption | omega | (simp; done) | (simp; omega)); have n0 : w1.cell? ⟨w.heap.size, 0, none⟩ = some (.int .i64 e) := (hb.cells _ _ (by first | with_reducible assumption | omega | (simp; done) | (simp; omega))).trans (by first | with_reducible assumption | (simp; done) | (simp; with_reducible assumption) | (rw [cell_alloc_before _ _ _ _ (by omega)]; with_reducible assumption) | (simp [go_sem, *]; done)); have n1 : w1.cell? ⟨w.heap.size, 1, none⟩ = some (.int .i64 f) := (hb.cells _ _ (by first | with_reducible assumption | omega | (simp; done) | (simp; omega))).trans (by first | with_reducible assumption | (simp; done) | (simp; with_reducible assumption) | (rw [cell_alloc_before _ _ _ _ (by omega)]; with_reducible assumption) | (simp [go_sem, *]; done)); (first | (have nx := Ext.trans hx hb; clear hx) | (have nx := Ext.trans (hx.alloc _) hb; clear hx) | (have nx := Ext.trans hx.drew hb; clear hx) | have nx := hb); clear hb; try clear hs; try clear g0; try clear g1; have hx := nx; clear nx; have hs := ns; clear ns; have g0 := n0; clear n0; have g1 := n1; clear n1) | (go_at_call 123; refine (HTR.out _).mono ?_; rintro rv w1 ⟨rfl, rfl⟩) | (go_at_call 48; refine (HPU.out _).mono ?_; rintro rv w1 ⟨rfl, hb⟩; have ns : w.heap.size < w1.heap.size := hb.lt (by first | with_reducible assumption | omega | (simp; done) | (simp; omega)); have n0 : w1.cell? ⟨w.heap.size, 0, none⟩ = some (.int .i64 e) := (hb.cells _ _ (by first | with_reducible assumption | omega | (simp; done) | (simp; omega))).trans (by first | with_reducible assumption | (simp; done) | (simp; with_reducible assumption) | (rw [cell_alloc_before _ _ _ _ (by omega)]; with_reducible assumption) | (simp [go_sem, *]; done)); have n1 : w1.cell? ⟨w.heap.size, 1, none⟩ = some (.int .i64 f) := (hb.cells _ _ (by first | with_reducible assumption | omega | (simp; done) | (simp; omega))).trans (by first | with_reducible assumption | (simp; done) | (simp; with_reducible assumption) | (rw [cell_alloc_before _ _ _ _ (by omega)]; with_reducible assumption) | (simp [go_sem, *]; done)); (first | (have nx := Ext.trans hx hb; clear hx) | (have nx := Ext.trans (hx.alloc _) hb; clear hx) | (have nx := Ext.trans hx.drew hb; clear hx) | have nx := hb); clear hb; try clear hs; try clear g0; try clear g1; have hx := nx; clear nx; have hs := ns; clear ns; have g0 := n0; clear n0; have g1 := n1; clear n1))
  go_ret2
  exact ⟨rfl, (by repeat (first | exact Ext.refl _ | with_reducible assumption | apply Ext.alloc | apply Ext.drew | apply Ext.drewN | (refine Ext.setRow ?_ (by first | (simp; done) | (simp; omega) | omega) _) | (refine Ext.setCell ?_ (by first | (simp; done) | (simp; omega) | omega) _) | (refine Ext.trans ?_ (by with_reducible assumption))))⟩

theorem pv_inf (e f : Int) (t : Bool) (w : World) : Calls Try.prog 62 #[fmt e f, .float .f32 (Ieee.single.word t Ieee.single.infRung)] w fun rv w' => rv = .returned (.tuple #[.int .i64 0, .bool false]) ∧ Ext w w' := by
  have hsz := fun w => sizeOf_inf t w
  have cv1 : ∀ w, (convert 54 80 (.float .f32 2139095040)).run Try.prog w = .ok (.float .f64 9218868437227405312) w := fun w =>
    run_convert_float_float w _ _ .f32 .f64 _ _ (by kernel_rfl) Try.underlying80 (by decide +kernel)
  have o1 : FloatKind.f64.format.order 9218868437227405312 4791830003522207744 = some .gt := by decide +kernel
  generalize Ieee.single.word t Ieee.single.infRung = x1 at *
  have HSZ := Lib.hid hsz; clear hsz
  go_enter Try.func62, Try.ntmps62
  go_wp2_with (go_at_call 69; refine (HSZ.out _).mono ?_; rintro rv w1 ⟨rfl, hb⟩; have ns : w.heap.size < w1.heap.size := hb.lt (by first | with_reducible assumption | omega | (simp; done) | (simp; omega)); have n0 : w1.cell? ⟨w.heap.size, 0, none⟩ = some (.int .i64 e) := (hb.cells _ _ (by first | with_reducible assumption | omega | (simp; done) | (simp; omega))).trans (by first | with_reducible assumption | (simp; done) | (simp; with_reducible assumption) | (rw [cell_alloc_before _ _ _ _ (by omega)]; with_reducible assumption) | (simp [go_sem, *]; done)); have n1 : w1.cell? ⟨w.heap.size, 1, none⟩ = some (.int .i64 f) := (hb.cells _ _ (by first | with_reducible assumption | omega | (simp; done) | (simp; omega))).trans (by first | with_reducible assumption | (simp; done) | (simp; with_reducible assumption) | (rw [cell_alloc_before _ _ _ _ (by omega)]; with_reducible assumption) | (simp [go_sem, *]; done)); (first | (have nx := Ext.trans hx hb; clear hx) | (have nx := Ext.trans (hx.alloc _) hb; clear hx) | (have nx := Ext.trans hx.drew hb; clear hx) | have nx := hb); clear hb; try clear hs; try clear g0; try clear g1; have hx := nx; clear nx; have hs := ns; clear ns; have g0 := n0; clear n0; have g1 := n1; clear n1)
  go_ret2
  exact ⟨rfl, (by repeat (first | exact Ext.refl _ | with_reducible assumption | apply Ext.alloc | apply Ext.drew | apply Ext.drewN | (refine Ext.setRow ?_ (by first | (simp; done) | (simp; omega) | omega) _) | (refine Ext.setCell ?_ (by first | (simp; done) | (simp; omega) | omega) _) | (refine Ext.trans ?_ (by with_reducible assumption))))⟩

set_option maxHeartbeats 3200000 in
theorem near2G (e f : Int) (x0 y0 r0 x1 y1 r1 : Nat) (gl cap : Nat) (h0 : floatBits .add .f32 0 x0 = some y0) (N0 : ∀ w, Calls Try.prog 89 #[fmt e f, .float .f32 y0] w fun rv w' => rv = .returned (.float .f32 r0) ∧ Ext w w') (h1 : floatBits .add .f32 r0 x1 = some y1) (N1 : ∀ w, Calls Try.prog 89 #[fmt e f, .float .f32 y1] w fun rv w' => rv = .returned (.float .f32 r1) ∧ Ext w w') (w : World) (c0 : w.cell? ⟨gl, 0, none⟩ = some (.float .f32 x0)) (c1 : w.cell? ⟨gl, 1, none⟩ = some (.float .f32 x1)) (hgl : gl < w.heap.size) : Calls Try.prog 63 #[fmt e f, .slice (some ⟨gl, 0, none⟩) 2 cap] w fun rv w' => rv = .returned (.float .f32 r1) ∧ Ext w w' := by
  have A0 : ∀ (t : TypeId) (w : World), (binOp .add t (.float .f32 0) (.float .f32 x0)).run Try.prog w = .ok (.float .f32 y0) w := fun t w => run_float_arith w .add t .f32 _ _ _ h0
  replace N0 := Lib.hid N0
  clear h0
  have A1 : ∀ (t : TypeId) (w : World), (binOp .add t (.float .f32 r0) (.float .f32 x1)).run Try.prog w = .ok (.float .f32 y1) w := fun t w => run_float_arith w .add t .f32 _ _ _ h1
  replace N1 := Lib.hid N1
  clear h1
  go_enter Try.func63, Try.ntmps63
  go_wp2_with fail
  refine wp_loop_rounds 3 ?_
  rw [rounds_succ]
  go_wp2_with (go_at_call 89; (with_reducible refine (N0.out _).mono ?_); rintro rv w1 ⟨rfl, hb⟩; have ns : max w.heap.size gl < w1.heap.size := hb.lt (by first | with_reducible assumption | omega | (simp; done) | (simp; omega)); have n0 : w1.cell? ⟨w.heap.size, 0, none⟩ = some (.int .i64 e) := (hb.cells _ _ (by first | with_reducible assumption | omega | (simp; done) | (simp; omega))).trans (by first | with_reducible assumption | (simp; done) | (simp; with_reducible assumption) | (rw [cell_alloc_before _ _ _ _ (by omega)]; with_reducible assumption) | (simp [go_sem, *]; done)); have n1 : w1.cell? ⟨w.heap.size, 1, none⟩ = some (.int .i64 f) := (hb.cells _ _ (by first | with_reducible assumption | omega | (simp; done) | (simp; omega))).trans (by first | with_reducible assumption | (simp; done) | (simp; with_reducible assumption) | (rw [cell_alloc_before _ _ _ _ (by omega)]; with_reducible assumption) | (simp [go_sem, *]; done)); have n2 : w1.cell? ⟨gl, 0, none⟩ = some (.float .f32 x0) := (hb.cells _ _ (by first | with_reducible assumption | omega | (simp; done) | (simp; omega))).trans (by first | with_reducible assumption | (simp; done) | (simp; with_reducible assumption) | (rw [cell_alloc_before _ _ _ _ (by omega)]; with_reducible assumption) | (simp [go_sem, *]; done)); have n3 : w1.cell? ⟨gl, 1, none⟩ = some (.float .f32 x1) := (hb.cells _ _ (by first | with_reducible assumption | omega | (simp; done) | (simp; omega))).trans (by first | with_reducible assumption | (simp; done) | (simp; with_reducible assumption) | (rw [cell_alloc_before _ _ _ _ (by omega)]; with_reducible assumption) | (simp [go_sem, *]; done)); (first | (have nx := Ext.trans hx hb; clear hx) | (have nx := Ext.trans (hx.alloc _) hb; clear hx) | (have nx := Ext.trans hx.drew hb; clear hx) | have nx := hb); clear hb; try clear hs; try clear g0; try clear g1; try clear g2; try clear g3; have hx := nx; clear nx; have hs := ns; clear ns; have g0 := n0; clear n0; have g1 := n1; clear n1; have g2 := n2; clear n2; have g3 := n3; clear n3)
  rw [rounds_succ]
  go_wp2_with (go_at_call 89; (with_reducible refine (N1.out _).mono ?_); rintro rv w1 ⟨rfl, hb⟩; have ns : max w.heap.size gl < w1.heap.size := hb.lt (by first | with_reducible assumption | omega | (simp; done) | (simp; omega)); have n0 : w1.cell? ⟨w.heap.size, 0, none⟩ = some (.int .i64 e) := (hb.cells _ _ (by first | with_reducible assumption | omega | (simp; done) | (simp; omega))).trans (by first | with_reducible assumption | (simp; done) | (simp; with_reducible assumption) | (rw [cell_alloc_before _ _ _ _ (by omega)]; with_reducible assumption) | (simp [go_sem, *]; done)); have n1 : w1.cell? ⟨w.heap.size, 1, none⟩ = some (.int .i64 f) := (hb.cells _ _ (by first | with_reducible assumption | omega | (simp; done) | (simp; omega))).trans (by first | with_reducible assumption | (simp; done) | (simp; with_reducible assumption) | (rw [cell_alloc_before _ _ _ _ (by omega)]; with_reducible assumption) | (simp [go_sem, *]; done)); have n2 : w1.cell? ⟨gl, 0, none⟩ = some (.float .f32 x0) := (hb.cells _ _ (by first | with_reducible assumption | omega | (simp; done) | (simp; omega))).trans (by first | with_reducible assumption | (simp; done) | (simp; with_reducible assumption) | (rw [cell_alloc_before _ _ _ _ (by omega)]; with_reducible assumption) | (simp [go_sem, *]; done)); have n3 : w1.cell? ⟨gl, 1, none⟩ = some (.float .f32 x1) := (hb.cells _ _ (by first | with_reducible assumption | omega | (simp; done) | (simp; omega))).trans (by first | with_reducible assumption | (simp; done) | (simp; with_reducible assumption) | (rw [cell_alloc_before _ _ _ _ (by omega)]; with_reducible assumption) | (simp [go_sem, *]; done)); (first | (have nx := Ext.trans hx hb; clear hx) | (have nx := Ext.trans (hx.alloc _) hb; clear hx) | (have nx := Ext.trans hx.drew hb; clear hx) | have nx := hb); clear hb; try clear hs; try clear g0; try clear g1; try clear g2; try clear g3; have hx := nx; clear nx; have hs := ns; clear ns; have g0 := n0; clear n0; have g1 := n1; clear n1; have g2 := n2; clear n2; have g3 := n3; clear n3)
  rw [rounds_succ]
  go_wp2_with fail
  go_ret
  exact ⟨rfl, (by repeat (first | exact Ext.refl _ | with_reducible assumption | apply Ext.alloc | apply Ext.drew | apply Ext.drewN | (refine Ext.setRow ?_ (by first | (simp; done) | (simp; omega) | omega) _) | (refine Ext.setCell ?_ (by first | (simp; done) | (simp; omega) | omega) _) | (refine Ext.trans ?_ (by with_reducible assumption))))⟩

set_option maxHeartbeats 3200000 in
theorem near3G (e f : Int) (x0 y0 r0 x1 y1 r1 x2 y2 r2 : Nat) (gl cap : Nat) (h0 : floatBits .add .f32 0 x0 = some y0) (N0 : ∀ w, Calls Try.prog 89 #[fmt e f, .float .f32 y0] w fun rv w' => rv = .returned (.float .f32 r0) ∧ Ext w w') (h1 : floatBits .add .f32 r0 x1 = some y1) (N1 : ∀ w, Calls Try.prog 89 #[fmt e f, .float .f32 y1] w fun rv w' => rv = .returned (.float .f32 r1) ∧ Ext w w') (h2 : floatBits .add .f32 r1 x2 = some y2) (N2 : ∀ w, Calls Try.prog 89 #[fmt e f, .float .f32 y2] w fun rv w' => rv = .returned (.float .f32 r2) ∧ Ext w w') (w : World) (c0 : w.cell? ⟨gl, 0, none⟩ = some (.float .f32 x0)) (c1 : w.cell? ⟨gl, 1, none⟩ = some (.float .f32 x1)) (c2 : w.cell? ⟨gl, 2, none⟩ = some (.float .f32 x2)) (hgl : gl < w.heap.size) : Calls Try.prog 63 #[fmt e f, .slice (some ⟨gl, 0, none⟩) 3 cap] w fun rv w' => rv = .returned (.float .f32 r2) ∧ Ext w w' := by
  have A0 : ∀ (t : TypeId) (w : World), (binOp .add t (.float .f32 0) (.float .f32 x0)).run Try.prog w = .ok (.float .f32 y0) w := fun t w => run_float_arith w .add t .f32 _ _ _ h0
  replace N0 := Lib.hid N0
  clear h0
  have A1 : ∀ (t : TypeId) (w : World), (binOp .add t (.float .f32 r0) (.float .f32 x1)).run Try.prog w = .ok (.float .f32 y1) w := fun t w => run_float_arith w .add t .f32 _ _ _ h1
  replace N1 := Lib.hid N1
  clear h1
  have A2 : ∀ (t : TypeId) (w : World), (binOp .add t (.float .f32 r1) (.float .f32 x2)).run Try.prog w = .ok (.float .f32 y2) w := fun t w => run_float_arith w .add t .f32 _ _ _ h2
  replace N2 := Lib.hid N2
  clear h2
  go_enter Try.func63, Try.ntmps63
  go_wp2_with fail
  refine wp_loop_rounds 4 ?_
  rw [rounds_succ]
  go_wp2_with (go_at_call 89; (with_reducible refine (N0.out _).mono ?_); rintro rv w1 ⟨rfl, hb⟩; have ns : max w.heap.size gl < w1.heap.size := hb.lt (by first | with_reducible assumption | omega | (simp; done) | (simp; omega)); have n0 : w1.cell? ⟨w.heap.size, 0, none⟩ = some (.int .i64 e) := (hb.cells _ _ (by first | with_reducible assumption | omega | (simp; done) | (simp; omega))).trans (by first | with_reducible assumption | (simp; done) | (simp; with_reducible assumption) | (rw [cell_alloc_before _ _ _ _ (by omega)]; with_reducible assumption) | (simp [go_sem, *]; done)); have n1 : w1.cell? ⟨w.heap.size, 1, none⟩ = some (.int .i64 f) := (hb.cells _ _ (by first | with_reducible assumption | omega | (simp; done) | (simp; omega))).trans (by first | with_reducible assumption | (simp; done) | (simp; with_reducible assumption) | (rw [cell_alloc_before _ _ _ _ (by omega)]; with_reducible assumption) | (simp [go_sem, *]; done)); have n2 : w1.cell? ⟨gl, 0, none⟩ = some (.float .f32 x0) := (hb.cells _ _ (by first | with_reducible assumption | omega | (simp; done) | (simp; omega))).trans (by first | with_reducible assumption | (simp; done) | (simp; with_reducible assumption) | (rw [cell_alloc_before _ _ _ _ (by omega)]; with_reducible assumption) | (simp [go_sem, *]; done)); have n3 : w1.cell? ⟨gl, 1, none⟩ = some (.float .f32 x1) := (hb.cells _ _ (by first | with_reducible assumption | omega | (simp; done) | (simp; omega))).trans (by first | with_reducible assumption | (simp; done) | (simp; with_reducible assumption) | (rw [cell_alloc_before _ _ _ _ (by omega)]; with_reducible assumption) | (simp [go_sem, *]; done)); have n4 : w1.cell? ⟨gl, 2, none⟩ = some (.float .f32 x2) := (hb.cells _ _ (by first | with_reducible assumption | omega | (simp; done) | (simp; omega))).trans (by first | with_reducible assumption | (simp; done) | (simp; with_reducible assumption) | (rw [cell_alloc_before _ _ _ _ (by omega)]; with_reducible assumption) | (simp [go_sem, *]; done)); (first | (have nx := Ext.trans hx hb; clear hx) | (have nx := Ext.trans (hx.alloc _) hb; clear hx) | (have nx := Ext.trans hx.drew hb; clear hx) | have nx := hb); clear hb; try clear hs; try clear g0; try clear g1; try clear g2; try clear g3; try clear g4; have hx := nx; clear nx; have hs := ns; clear ns; have g0 := n0; clear n0; have g1 := n1; clear n1; have g2 := n2; clear n2; have g3 := n3; clear n3; have g4 := n4; clear n4)
  rw [rounds_succ]
  go_wp2_with (go_at_call 89; (with_reducible refine (N1.out _).mono ?_); rintro rv w1 ⟨rfl, hb⟩; have ns : max w.heap.size gl < w1.heap.size := hb.lt (by first | with_reducible assumption | omega | (simp; done) | (simp; omega)); have n0 : w1.cell? ⟨w.heap.size, 0, none⟩ = some (.int .i64 e) := (hb.cells _ _ (by first | with_reducible assumption | omega | (simp; done) | (simp; omega))).trans (by first | with_reducible assumption | (simp; done) | (simp; with_reducible assumption) | (rw [cell_alloc_before _ _ _ _ (by omega)]; with_reducible assumption) | (simp [go_sem, *]; done)); have n1 : w1.cell? ⟨w.heap.size, 1, none⟩ = some (.int .i64 f) := (hb.cells _ _ (by first | with_reducible assumption | omega | (simp; done) | (simp; omega))).trans (by first | with_reducible assumption | (simp; done) | (simp; with_reducible assumption) | (rw [cell_alloc_before _ _ _ _ (by omega)]; with_reducible assumption) | (simp [go_sem, *]; done)); have n2 : w1.cell? ⟨gl, 0, none⟩ = some (.float .f32 x0) := (hb.cells _ _ (by first | with_reducible assumption | omega | (simp; done) | (simp; omega))).trans (by first | with_reducible assumption | (simp; done) | (simp; with_reducible assumption) | (rw [cell_alloc_before _ _ _ _ (by omega)]; with_reducible assumption) | (simp [go_sem, *]; done)); have n3 : w1.cell? ⟨gl, 1, none⟩ = some (.float .f32 x1) := (hb.cells _ _ (by first | with_reducible assumption | omega | (simp; done) | (simp; omega))).trans (by first | with_reducible assumption | (simp; done) | (simp; with_reducible assumption) | (rw [cell_alloc_before _ _ _ _ (by omega)]; with_reducible assumption) | (simp [go_sem, *]; done)); have n4 : w1.cell? ⟨gl, 2, none⟩ = some (.float .f32 x2) := (hb.cells _ _ (by first | with_reducible assumption | omega | (simp; done) | (simp; omega))).trans (by first | with_reducible assumption | (simp; done) | (simp; with_reducible assumption) | (rw [cell_alloc_before _ _ _ _ (by omega)]; with_reducible assumption) | (simp [go_sem, *]; done)); (first | (have nx := Ext.trans hx hb; clear hx) | (have nx := Ext.trans (hx.alloc _) hb; clear hx) | (have nx := Ext.trans hx.drew hb; clear hx) | have nx := hb); clear hb; try clear hs; try clear g0; try clear g1; try clear g2; try clear g3; try clear g4; have hx := nx; clear nx; have hs := ns; clear ns; have g0 := n0; clear n0; have g1 := n1; clear n1; have g2 := n2; clear n2; have g3 := n3; clear n3; have g4 := n4; clear n4)
  rw [rounds_succ]
  go_wp2_with (go_at_call 89; (with_reducible refine (N2.out _).mono ?_); rintro rv w1 ⟨rfl, hb⟩; have ns : max w.heap.size gl < w1.heap.size := hb.lt (by first | with_reducible assumption | omega | (simp; done) | (simp; omega)); have n0 : w1.cell? ⟨w.heap.size, 0, none⟩ = some (.int .i64 e) := (hb.cells _ _ (by first | with_reducible assumption | omega | (simp; done) | (simp; omega))).trans (by first | with_reducible assumption | (simp; done) | (simp; with_reducible assumption) | (rw [cell_alloc_before _ _ _ _ (by omega)]; with_reducible assumption) | (simp [go_sem, *]; done)); have n1 : w1.cell? ⟨w.heap.size, 1, none⟩ = some (.int .i64 f) := (hb.cells _ _ (by first | with_reducible assumption | omega | (simp; done) | (simp; omega))).trans (by first | with_reducible assumption | (simp; done) | (simp; with_reducible assumption) | (rw [cell_alloc_before _ _ _ _ (by omega)]; with_reducible assumption) | (simp [go_sem, *]; done)); have n2 : w1.cell? ⟨gl, 0, none⟩ = some (.float .f32 x0) := (hb.cells _ _ (by first | with_reducible assumption | omega | (simp; done) | (simp; omega))).trans (by first | with_reducible assumption | (simp; done) | (simp; with_reducible assumption) | (rw [cell_alloc_before _ _ _ _ (by omega)]; with_reducible assumption) | (simp [go_sem, *]; done)); have n3 : w1.cell? ⟨gl, 1, none⟩ = some (.float .f32 x1) := (hb.cells _ _ (by first | with_reducible assumption | omega | (simp; done) | (simp; omega))).trans (by first | with_reducible assumption | (simp; done) | (simp; with_reducible assumption) | (rw [cell_alloc_before _ _ _ _ (by omega)]; with_reducible assumption) | (simp [go_sem, *]; done)); have n4 : w1.cell? ⟨gl, 2, none⟩ = some (.float .f32 x2) := (hb.cells _ _ (by first | with_reducible assumption | omega | (simp; done) | (simp; omega))).trans (by first | with_reducible assumption | (simp; done) | (simp; with_reducible assumption) | (rw [cell_alloc_before _ _ _ _ (by omega)]; with_reducible assumption) | (simp [go_sem, *]; done)); (first | (have nx := Ext.trans hx hb; clear hx) | (have nx := Ext.trans (hx.alloc _) hb; clear hx) | (have nx := Ext.trans hx.drew hb; clear hx) | have nx := hb); clear hb; try clear hs; try clear g0; try clear g1; try clear g2; try clear g3; try clear g4; have hx := nx; clear nx; have hs := ns; clear ns; have g0 := n0; clear n0; have g1 := n1; clear n1; have g2 := n2; clear n2; have g3 := n3; clear n3; have g4 := n4; clear n4)
  rw [rounds_succ]
  go_wp2_with fail
  go_ret
  exact ⟨rfl, (by repeat (first | exact Ext.refl _ | with_reducible assumption | apply Ext.alloc | apply Ext.drew | apply Ext.drewN | (refine Ext.setRow ?_ (by first | (simp; done) | (simp; omega) | omega) _) | (refine Ext.setCell ?_ (by first | (simp; done) | (simp; omega) | omega) _) | (refine Ext.trans ?_ (by with_reducible assumption))))⟩
end Go.Proofs.Ytcbkhlaiefiieac

namespace Go.Proofs.Ytcbkhlaiefiieac
open Go Go.RowKit
set_option linter.unusedSimpArgs false
set_option linter.unusedVariables false
set_option maxRecDepth 100000

/-- s is what u units are rounded to, without the sign. -/
def NSp (e f u s : Int) : Prop := IsRnd f (grV e f) (u.natAbs : Int) 1 0 false s

noncomputable def nsP (e f u : Int) : Int := Classical.epsilon (fun s => NSp e f u s)

/-- A pattern with the sign of u, and 0 for both zeros. -/
def exV (e f u s : Int) : Int := if s = 0 then 0 else if u < 0 then pw (e + f) + s else s

/-- The near sum whose exact one is u units. -/
noncomputable def nsV (e f u : Int) : Int := exV e f u (nsP e f u)

noncomputable def nsB (e f u : Int) : Bool := decide (nsP e f u ≤ grV e f)

noncomputable def nsR (e f u : Int) : Int := if nsB e f u = true then nsV e f u else 0

theorem nsP_ex {e f u : Int} (hg : goodB e f = true) : NSp e f u (nsP e f u) := by
  have h : ∃ s, NSp e f u s := by
    obtain ⟨p, hp⟩ := belowq_ex f (u.natAbs : Int) 1 (good_iff.1 hg).2.2.1 (by omega) (grV e f).toNat
    rw [Int.toNat_of_nonneg (by have := (gr_bd2 hg).1; omega)] at hp
    exact ⟨_, p, hp, rfl⟩
  exact Classical.epsilon_spec h

theorem nsP_one {e f u s : Int} (hg : goodB e f = true) (h : NSp e f u s) : s = nsP e f u := rnd_one (good_iff.1 hg).2.2.1 (by decide) h (nsP_ex hg)

theorem nsP_bd {e f u : Int} (hg : goodB e f = true) : 0 ≤ nsP e f u ∧ nsP e f u ≤ grV e f + 1 := rnd_top (nsP_ex hg)

theorem mg_zero (f : Int) : mgV f 0 = 0 := by
  unfold mgV
  rw [if_neg (by simp)]; simp

theorem rnd_self {f g D p : Int} (hf : 1 ≤ f) (hD : 0 < D) (p0 : 0 ≤ p) (p1 : p ≤ g) : IsRnd f g (mgV f p * D) D 0 false p := by
  obtain ⟨a1, a2, a3, a4⟩ := mg_st hf p0
  have := Int.mul_lt_mul_of_pos_right (show mgV f p < mgV f (p + 1) by omega) hD
  refine ⟨p, ⟨p0, p1, Int.le_refl _, Or.inr this⟩, ?_⟩
  unfold rndP
  rw [if_pos (by omega)]

theorem nsP_val {e f u s : Int} (hg : goodB e f = true) (s0 : 0 ≤ s) (s1 : s ≤ grV e f) (h : (u.natAbs : Int) = mgV f s) : nsP e f u = s := by
  refine (nsP_one hg ?_).symm
  have := rnd_self (g := grV e f) (D := 1) (good_iff.1 hg).2.2.1 (by decide) s0 s1
  unfold NSp
  rw [h]
  rwa [Int.mul_one] at this

theorem nsP_zero {e f u : Int} (hg : goodB e f = true) : nsP e f u = 0 ↔ u = 0 := by
  constructor
  · intro h
    have h2 : NSp e f u (nsP e f u) := nsP_ex hg
    rw [h] at h2
    obtain ⟨p, ⟨p0, p1, p2, p3⟩, hr⟩ := h2
    have hp : p = 0 := by
      unfold rndP at hr
      split at hr
      · omega
      · split at hr <;> omega
    subst hp
    have hf := (good_iff.1 hg).2.2.1
    obtain ⟨a1, a2, a3, a4⟩ := mg_st hf (Int.le_refl 0)
    have g0 := (gr_bd2 hg).1
    have c := pw_pos f
    have e1 : stV f 0 = 1 := by
      unfold stV
      rw [show (0 : Int) / pw f = 0 by simp]; decide
    rw [Int.zero_add] at a4 p3
    rw [mg_zero] at a4
    rcases p3 with p3 | p3
    · omega
    · rw [a4, e1] at p3
      omega
  · intro h
    subst h
    exact nsP_val hg (Int.le_refl 0) (by have := (gr_bd2 hg).1; omega) (by rw [mg_zero]; rfl)

theorem kind_lt3 {e f p : Int} (hp : patB e f p = true) : decide (kindV e f p < 3) = finB e f p := by
  unfold finB kindV
  rw [hp, Bool.true_and]
  by_cases h : p % pw (e + f) / pw f = pw e - 1
  · rw [if_pos (by simpa using h), decide_eq_false (show ¬ (p % pw (e + f) / pw f < pw e - 1) by omega)]
    apply decide_eq_false
    split <;> omega
  · rw [if_neg (by simpa using h)]
    obtain ⟨hg, p0, p1⟩ := pat_iff.1 hp
    obtain ⟨h1, h2, h3, h4⟩ := good_iff.1 hg
    obtain ⟨⟨a1, a2⟩, ⟨b1, b2⟩, ⟨c1, c2⟩, hmul⟩ := pw_facts h1 h2 h3 h4
    have r1 := Int.emod_lt_of_pos p (show 0 < pw (e + f) by omega)
    have : p % pw (e + f) / pw f < pw e := Int.ediv_lt_of_lt_mul (by omega) (by rw [← hmul]; exact r1)
    rw [decide_eq_true (show p % pw (e + f) / pw f < pw e - 1 by omega)]
    apply decide_eq_true
    split
    · omega
    · split <;> omega

theorem ns_pat {e f u : Int} (hg : goodB e f = true) : patB e f (nsV e f u) = true ∧ finB e f (nsV e f u) = nsB e f u := by
  obtain ⟨s0, s1⟩ := nsP_bd (u := u) hg
  obtain ⟨q1, q2, q3, q4⟩ := s_parts hg s0 s1
  have pp := pw_pos (e + f)
  have lt : nsP e f u < pw (e + f) := by
    have := Int.emod_lt_of_pos (nsP e f u) (show 0 < pw (e + f) by omega)
    omega
  have hm : nsV e f u % pw (e + f) = nsP e f u := by
    unfold nsV exV
    by_cases z : nsP e f u = 0
    · rw [if_pos z, z]; simp
    · rw [if_neg z]
      split
      · rw [Int.add_comm, Int.add_emod_right]; exact q3
      · exact q3
  have hp : patB e f (nsV e f u) = true := by
    refine pat_iff.2 ⟨hg, ?_, ?_⟩ <;> (unfold nsV exV; split; omega; split <;> omega)
  refine ⟨hp, ?_⟩
  unfold finB nsB
  rw [hp, Bool.true_and, hm, decide_eq_decide]
  exact q4

theorem mag_mod {e f p : Int} (hp : patB e f p = true) : magV e f p = mgV f (p % pw (e + f)) := by
  obtain ⟨hg, p0, p1⟩ := pat_iff.1 hp
  obtain ⟨h1, h2, h3, h4⟩ := good_iff.1 hg
  have hd : pw (e + f) = pw e * pw f := pw_add e f (by omega) (by omega)
  have hm : p % pw (e + f) % pw f = p % pw f := by
    rw [hd]
    exact Int.emod_emod_of_dvd p ⟨pw e, Int.mul_comm _ _⟩
  unfold magV mgV
  rw [hm]

/-- The size of a finite pattern. -/
theorem fin_size {e f p : Int} (h : finB e f p = true) : goodB e f = true ∧ 0 ≤ p % pw (e + f) ∧ p % pw (e + f) ≤ grV e f ∧ ((unitsV e f p).natAbs : Int) = mgV f (p % pw (e + f)) := by
  obtain ⟨hp, hx⟩ := fin_pat h
  obtain ⟨hg, p0, p1⟩ := pat_iff.1 hp
  have pp := pw_pos (e + f)
  have r0 := Int.emod_nonneg p (show pw (e + f) ≠ 0 by omega)
  have c := pw_pos f
  have le : p % pw (e + f) ≤ grV e f := by
    rw [Int.ediv_lt_iff_lt_mul (by omega)] at hx
    unfold grV
    omega
  refine ⟨hg, r0, le, ?_⟩
  have hb := mag_bd e f p hp
  rw [← mag_mod hp]
  unfold unitsV
  split <;> omega

theorem ns_small {e f a b : Int} (ha : finB e f a = true) (hb : finB e f b = true) : -4398046511104 ≤ unitsV e f a + unitsV e f b ∧ unitsV e f a + unitsV e f b ≤ 4398046511104 ∧ -2199023255552 < unitsV e f a ∧ unitsV e f a < 2199023255552 ∧ -2199023255552 < unitsV e f b ∧ unitsV e f b < 2199023255552 := by
  obtain ⟨hg, a0, a1, a2⟩ := fin_size ha
  obtain ⟨_, b0, b1, b2⟩ := fin_size hb
  have := mg_bd hg a0 a1
  have := mg_bd hg b0 b1
  omega

/-- The single sum of two values is rounded as their sum is. -/
theorem ns_single {e f a b : Int} (ha : finB e f a = true) (hb : finB e f b = true) : ∃ V : Nat, Ok Ieee.single V ∧ V < 2 ^ 191 ∧ cw (unitsV e f a + unitsV e f b) = sw Ieee.single (decide (unitsV e f a + unitsV e f b < 0)) V ∧ ∀ s, IsRnd f (grV e f) V (pw 149) 0 false s → s = nsP e f (unitsV e f a + unitsV e f b) := by
  obtain ⟨hg, a0, a1, a2⟩ := fin_size ha
  obtain ⟨_, b0, b1, b2⟩ := fin_size hb
  rcases Nat.le_total (unitsV e f b).natAbs (unitsV e f a).natAbs with h | h
  · obtain ⟨V, v1, v2, v3, _, _, v4⟩ := sum_single (X := (unitsV e f a + unitsV e f b).natAbs) hg a0 a1 b0 b1 a2.symm b2.symm h (by omega)
    exact ⟨V, v1, v2, cw_same v3, fun s hs => nsP_one hg (v4 s hs)⟩
  · obtain ⟨V, v1, v2, v3, _, _, v4⟩ := sum_single (X := (unitsV e f a + unitsV e f b).natAbs) hg b0 b1 a0 a1 b2.symm a2.symm h (by omega)
    exact ⟨V, v1, v2, cw_same v3, fun s hs => nsP_one hg (v4 s hs)⟩

theorem ok_units {e f a : Int} (ha : finB e f a = true) : Ok Ieee.single ((unitsV e f a).natAbs * 2 ^ 149) := by
  obtain ⟨hg, a0, a1, a2⟩ := fin_size ha
  exact ok_abs (mgN_ok hg a0 a1).1 a2

theorem nearest_val (e f a : Int) (ha : finB e f a = true) (w : World) : Calls Try.prog 89 #[fmt e f, .float .f32 (cw (unitsV e f a))] w fun rv w' => rv = .returned (.float .f32 (cw (unitsV e f a))) ∧ Ext w w' := by
  obtain ⟨hg, a0, a1, a2⟩ := fin_size ha
  obtain ⟨ok, lt⟩ := mgN_ok hg a0 a1
  have hf := (good_iff.1 hg).2.2.1
  have hm := mgN_cast f (a % pw (e + f)) (mg_bd hg a0 a1).1
  rw [cw_mg a2]
  refine (nearest_sw e f _ _ hg ok (Nat.lt_trans lt (by decide)) w).mono ?_
  rintro rv w' ⟨s, rfl, hs, _, hb⟩
  rw [hm] at hs
  obtain rfl := rnd_one hf (by have := pw_pos 149; omega) hs (rnd_self hf (by have := pw_pos 149; omega) a0 a1)
  refine ⟨?_, hb⟩
  unfold nrW
  rw [if_pos a1]

theorem nearest_sum (e f a b : Int) (ha : finB e f a = true) (hb2 : finB e f b = true) (w : World) : Calls Try.prog 89 #[fmt e f, .float .f32 (cw (unitsV e f a + unitsV e f b))] w fun rv w' => rv = .returned (.float .f32 (nrW e f (decide (unitsV e f a + unitsV e f b < 0)) (nsP e f (unitsV e f a + unitsV e f b)))) ∧ Ext w w' := by
  obtain ⟨hg, _⟩ := fin_size ha
  obtain ⟨V, v1, v2, v3, v4⟩ := ns_single ha hb2
  rw [v3]
  refine (nearest_sw e f _ V hg v1 v2 w).mono ?_
  rintro rv w' ⟨s, rfl, hs, _, hb⟩
  rw [v4 s hs]
  exact ⟨rfl, hb⟩

theorem pv_ns (e f u : Int) (hg : goodB e f = true) (w : World) : Calls Try.prog 62 #[fmt e f, .float .f32 (nrW e f (decide (u < 0)) (nsP e f u))] w fun rv w' => rv = .returned (.tuple #[.int .i64 (nsR e f u), .bool (nsB e f u)]) ∧ Ext w w' := by
  obtain ⟨s0, s1⟩ := nsP_bd (u := u) hg
  by_cases g : nsP e f u ≤ grV e f
  · have hb := mg_bd hg s0 g
    have e1 : psV e f (sv (decide (u < 0)) (mgV f (nsP e f u)).toNat) (nsP e f u) = nsR e f u := by
      unfold nsR nsV nsB psV exV
      rw [decide_eq_true g, if_pos rfl]
      by_cases z : nsP e f u = 0
      · rw [if_pos z, z, mg_zero]
        rw [if_neg]
        unfold sv
        split <;> simp
      · rw [if_neg z]
        have m1 : 0 < mgV f (nsP e f u) := by
          have := mg_mono f 1 (nsP e f u) (good_iff.1 hg).2.2.1 (by decide) (by omega)
          have c := pw_pos f
          have c2 := (pw_facts (good_iff.1 hg).1 (good_iff.1 hg).2.1 (good_iff.1 hg).2.2.1 (good_iff.1 hg).2.2.2).2.2.1.1
          rw [mg_small f 1 (by decide) (by omega)] at this
          omega
        by_cases n : u < 0
        · rw [if_pos n, decide_eq_true n]
          rw [if_pos]
          unfold sv
          rw [if_pos rfl]
          omega
        · rw [if_neg n, decide_eq_false n]
          rw [if_neg]
          unfold sv
          rw [if_neg (by decide)]
          omega
    have e2 : nsB e f u = true := decide_eq_true g
    unfold nrW
    rw [if_pos g]
    have := pv_fin e f (nsP e f u) (decide (u < 0)) hg s0 g w
    rw [e1] at this
    rw [e2]
    exact this
  · have e2 : nsB e f u = false := decide_eq_false g
    have e3 : nsR e f u = 0 := by unfold nsR; rw [e2]; rfl
    unfold nrW
    rw [if_neg g, e2, e3]
    exact pv_inf e f (decide (u < 0)) w

/-- The zero with the sign 0 for both. -/
def ezV (e f p : Int) : Int := if p % pw (e + f) = 0 then 0 else p

theorem exZero_any (e f p : Int) (hg : goodB e f = true) (hp : 0 ≤ p) (w : World) : Calls Try.prog 82 #[fmt e f, .int .i64 p] w fun rv w' => rv = .returned (.int .i64 (ezV e f p)) ∧ Ext w w' := by
  by_cases h : p % pw (e + f) = 0
  · have e1 : ezV e f p = 0 := if_pos h
    have hz : (p % pw (e + f) == 0) = true := by simpa using h
    rw [e1]
    clear h e1
    go_enter Try.func82, Try.ntmps82
    go_wp2_with (go_at_call 67; refine (fmSize_any e f p hg hp _).mono ?_; rintro rv w1 ⟨rfl, hb⟩; have ns : w.heap.size < w1.heap.size := hb.lt (by first | with_reducible assumption | omega | (simp; done) | (simp; omega)); have n0 : w1.cell? ⟨w.heap.size, 0, none⟩ = some (.int .i64 e) := (hb.cells _ _ (by first | with_reducible assumption | omega | (simp; done) | (simp; omega))).trans (by first | with_reducible assumption | (simp; done) | (simp; with_reducible assumption) | (rw [cell_alloc_before _ _ _ _ (by omega)]; with_reducible assumption) | (simp [go_sem, *]; done)); have n1 : w1.cell? ⟨w.heap.size, 1, none⟩ = some (.int .i64 f) := (hb.cells _ _ (by first | with_reducible assumption | omega | (simp; done) | (simp; omega))).trans (by first | with_reducible assumption | (simp; done) | (simp; with_reducible assumption) | (rw [cell_alloc_before _ _ _ _ (by omega)]; with_reducible assumption) | (simp [go_sem, *]; done)); (first | (have nx := Ext.trans hx hb; clear hx) | (have nx := Ext.trans (hx.alloc _) hb; clear hx) | (have nx := Ext.trans hx.drew hb; clear hx) | have nx := hb); clear hb; try clear hs; try clear g0; try clear g1; have hx := nx; clear nx; have hs := ns; clear ns; have g0 := n0; clear n0; have g1 := n1; clear n1)
    go_ret
    exact ⟨rfl, (by repeat (first | exact Ext.refl _ | with_reducible assumption | apply Ext.alloc | apply Ext.drew | apply Ext.drewN | (refine Ext.setRow ?_ (by first | (simp; done) | (simp; omega) | omega) _) | (refine Ext.setCell ?_ (by first | (simp; done) | (simp; omega) | omega) _) | (refine Ext.trans ?_ (by with_reducible assumption))))⟩
  · have e1 : ezV e f p = p := if_neg h
    have hz : (p % pw (e + f) == 0) = false := by simpa using h
    rw [e1]
    clear h e1
    go_enter Try.func82, Try.ntmps82
    go_wp2_with (go_at_call 67; refine (fmSize_any e f p hg hp _).mono ?_; rintro rv w1 ⟨rfl, hb⟩; have ns : w.heap.size < w1.heap.size := hb.lt (by first | with_reducible assumption | omega | (simp; done) | (simp; omega)); have n0 : w1.cell? ⟨w.heap.size, 0, none⟩ = some (.int .i64 e) := (hb.cells _ _ (by first | with_reducible assumption | omega | (simp; done) | (simp; omega))).trans (by first | with_reducible assumption | (simp; done) | (simp; with_reducible assumption) | (rw [cell_alloc_before _ _ _ _ (by omega)]; with_reducible assumption) | (simp [go_sem, *]; done)); have n1 : w1.cell? ⟨w.heap.size, 1, none⟩ = some (.int .i64 f) := (hb.cells _ _ (by first | with_reducible assumption | omega | (simp; done) | (simp; omega))).trans (by first | with_reducible assumption | (simp; done) | (simp; with_reducible assumption) | (rw [cell_alloc_before _ _ _ _ (by omega)]; with_reducible assumption) | (simp [go_sem, *]; done)); (first | (have nx := Ext.trans hx hb; clear hx) | (have nx := Ext.trans (hx.alloc _) hb; clear hx) | (have nx := Ext.trans hx.drew hb; clear hx) | have nx := hb); clear hb; try clear hs; try clear g0; try clear g1; have hx := nx; clear nx; have hs := ns; clear ns; have g0 := n0; clear n0; have g1 := n1; clear n1)
    go_ret
    exact ⟨rfl, (by repeat (first | exact Ext.refl _ | with_reducible assumption | apply Ext.alloc | apply Ext.drew | apply Ext.drewN | (refine Ext.setRow ?_ (by first | (simp; done) | (simp; omega) | omega) _) | (refine Ext.setCell ?_ (by first | (simp; done) | (simp; omega) | omega) _) | (refine Ext.trans ?_ (by with_reducible assumption))))⟩

theorem exFits_any (e f p : Int) (hp : patB e f p = true) (w : World) : Calls Try.prog 83 #[fmt e f, .int .i64 p] w fun rv w' => rv = .returned (.bool (finB e f p)) ∧ Ext w w' := by
  rw [← kind_lt3 hp]
  go_enter Try.func83, Try.ntmps83
  go_wp2_with (go_at_call 138; refine (fmKind_any e f p hp _).mono ?_; rintro rv w1 ⟨rfl, hb⟩; have ns : w.heap.size < w1.heap.size := hb.lt (by first | with_reducible assumption | omega | (simp; done) | (simp; omega)); have n0 : w1.cell? ⟨w.heap.size, 0, none⟩ = some (.int .i64 e) := (hb.cells _ _ (by first | with_reducible assumption | omega | (simp; done) | (simp; omega))).trans (by first | with_reducible assumption | (simp; done) | (simp; with_reducible assumption) | (rw [cell_alloc_before _ _ _ _ (by omega)]; with_reducible assumption) | (simp [go_sem, *]; done)); have n1 : w1.cell? ⟨w.heap.size, 1, none⟩ = some (.int .i64 f) := (hb.cells _ _ (by first | with_reducible assumption | omega | (simp; done) | (simp; omega))).trans (by first | with_reducible assumption | (simp; done) | (simp; with_reducible assumption) | (rw [cell_alloc_before _ _ _ _ (by omega)]; with_reducible assumption) | (simp [go_sem, *]; done)); (first | (have nx := Ext.trans hx hb; clear hx) | (have nx := Ext.trans (hx.alloc _) hb; clear hx) | (have nx := Ext.trans hx.drew hb; clear hx) | have nx := hb); clear hb; try clear hs; try clear g0; try clear g1; have hx := nx; clear nx; have hs := ns; clear ns; have g0 := n0; clear n0; have g1 := n1; clear n1)
  go_ret
  exact ⟨rfl, (by repeat (first | exact Ext.refl _ | with_reducible assumption | apply Ext.alloc | apply Ext.drew | apply Ext.drewN | (refine Ext.setRow ?_ (by first | (simp; done) | (simp; omega) | omega) _) | (refine Ext.setCell ?_ (by first | (simp; done) | (simp; omega) | omega) _) | (refine Ext.trans ?_ (by with_reducible assumption))))⟩

theorem exBoth_any (e f a b : Int) (w : World) : Calls Try.prog 59 #[fmt e f, .int .i64 a, .int .i64 b] w fun rv w' => rv = .returned (.bool (finB e f a && finB e f b)) ∧ Ext w w' := by
  cases h : finB e f a
  · go_enter Try.func59, Try.ntmps59
    go_wp2_with (go_at_call 121; refine (fmFinite_any e f _ _).mono ?_; rintro rv w1 ⟨rfl, hb⟩; have ns : w.heap.size < w1.heap.size := hb.lt (by first | with_reducible assumption | omega | (simp; done) | (simp; omega)); have n0 : w1.cell? ⟨w.heap.size, 0, none⟩ = some (.int .i64 e) := (hb.cells _ _ (by first | with_reducible assumption | omega | (simp; done) | (simp; omega))).trans (by first | with_reducible assumption | (simp; done) | (simp; with_reducible assumption) | (rw [cell_alloc_before _ _ _ _ (by omega)]; with_reducible assumption) | (simp [go_sem, *]; done)); have n1 : w1.cell? ⟨w.heap.size, 1, none⟩ = some (.int .i64 f) := (hb.cells _ _ (by first | with_reducible assumption | omega | (simp; done) | (simp; omega))).trans (by first | with_reducible assumption | (simp; done) | (simp; with_reducible assumption) | (rw [cell_alloc_before _ _ _ _ (by omega)]; with_reducible assumption) | (simp [go_sem, *]; done)); (first | (have nx := Ext.trans hx hb; clear hx) | (have nx := Ext.trans (hx.alloc _) hb; clear hx) | (have nx := Ext.trans hx.drew hb; clear hx) | have nx := hb); clear hb; try clear hs; try clear g0; try clear g1; have hx := nx; clear nx; have hs := ns; clear ns; have g0 := n0; clear n0; have g1 := n1; clear n1)
    go_ret
    exact ⟨rfl, (by repeat (first | exact Ext.refl _ | with_reducible assumption | apply Ext.alloc | apply Ext.drew | apply Ext.drewN | (refine Ext.setRow ?_ (by first | (simp; done) | (simp; omega) | omega) _) | (refine Ext.setCell ?_ (by first | (simp; done) | (simp; omega) | omega) _) | (refine Ext.trans ?_ (by with_reducible assumption))))⟩
  · go_enter Try.func59, Try.ntmps59
    go_wp2_with (go_at_call 121; refine (fmFinite_any e f _ _).mono ?_; rintro rv w1 ⟨rfl, hb⟩; have ns : w.heap.size < w1.heap.size := hb.lt (by first | with_reducible assumption | omega | (simp; done) | (simp; omega)); have n0 : w1.cell? ⟨w.heap.size, 0, none⟩ = some (.int .i64 e) := (hb.cells _ _ (by first | with_reducible assumption | omega | (simp; done) | (simp; omega))).trans (by first | with_reducible assumption | (simp; done) | (simp; with_reducible assumption) | (rw [cell_alloc_before _ _ _ _ (by omega)]; with_reducible assumption) | (simp [go_sem, *]; done)); have n1 : w1.cell? ⟨w.heap.size, 1, none⟩ = some (.int .i64 f) := (hb.cells _ _ (by first | with_reducible assumption | omega | (simp; done) | (simp; omega))).trans (by first | with_reducible assumption | (simp; done) | (simp; with_reducible assumption) | (rw [cell_alloc_before _ _ _ _ (by omega)]; with_reducible assumption) | (simp [go_sem, *]; done)); (first | (have nx := Ext.trans hx hb; clear hx) | (have nx := Ext.trans (hx.alloc _) hb; clear hx) | (have nx := Ext.trans hx.drew hb; clear hx) | have nx := hb); clear hb; try clear hs; try clear g0; try clear g1; have hx := nx; clear nx; have hs := ns; clear ns; have g0 := n0; clear n0; have g1 := n1; clear n1)
    go_ret
    exact ⟨ret_bool (by simp), (by repeat (first | exact Ext.refl _ | with_reducible assumption | apply Ext.alloc | apply Ext.drew | apply Ext.drewN | (refine Ext.setRow ?_ (by first | (simp; done) | (simp; omega) | omega) _) | (refine Ext.setCell ?_ (by first | (simp; done) | (simp; omega) | omega) _) | (refine Ext.trans ?_ (by with_reducible assumption))))⟩

set_option maxHeartbeats 3200000 in
theorem exOf_n (e f u : Int) (hg : goodB e f = true) (h1 : -35184372088832 ≤ u) (h2 : u ≤ 35184372088832) (hd : decide (u < 0) = true) (w : World) : Calls Try.prog 122 #[fmt e f, .int .i64 u] w fun rv w' => rv = .returned (.int .i64 (nsV e f u)) ∧ Ext w w' := by
  have EQ := Lib.hid (fun (s : Int) (h : IsRnd f (grV e f) ((u.natAbs : Int) * 1 + 0) 1 0 true s) => nsP_one (s := s) hg (by
    rw [Int.mul_one, Int.add_zero] at h
    exact h))
  have RSG : RowKit.Hid (∀ (s : Int) (hs : s = nsP e f u) (w : World), Calls Try.prog 77 #[fmt e f, .int .i64 s, .bool true] w fun rv w' => rv = .returned (.int .i64 (pw (e + f) + s)) ∧ Ext w w') := fun s hs w => by
    obtain ⟨s0, s1⟩ := nsP_bd (u := u) hg
    have gb := gr_bd2 hg
    have := rdSigned_any e f s true hg (by omega) (by omega) w
    exact this
  have EZ : RowKit.Hid (∀ (s : Int) (hs : s = nsP e f u) (w : World), Calls Try.prog 82 #[fmt e f, .int .i64 (pw (e + f) + s)] w fun rv w' => rv = .returned (.int .i64 (nsV e f u)) ∧ Ext w w') := fun s hs w => by
    obtain ⟨s0, s1⟩ := nsP_bd (u := u) hg
    obtain ⟨q1, q2, q3, q4⟩ := s_parts hg s0 s1
    have pp := pw_pos (e + f)
    have := exZero_any e f (pw (e + f) + s) hg (by omega) w
    have e1 : ezV e f (pw (e + f) + s) = nsV e f u := by
      unfold ezV nsV exV
      rw [hs]
      rw [Int.add_comm, Int.add_emod_right, q3, if_pos (of_decide_eq_true hd), Int.add_comm]
    rw [e1] at this
    exact this
  go_enter Try.func122, Try.ntmps122
  go_wp2_with fail
  go_region_held3 (fun w' => w'.cell? ⟨w.heap.size, 0, none⟩ = some (.int .i64 e) ∧ w'.cell? ⟨w.heap.size, 1, none⟩ = some (.int .i64 f) ∧ w.heap.size < w'.heap.size) ((refine ⟨?_, ?_, ?_⟩ <;> first | with_reducible assumption | ((rw [cell_setRow_far _ _ _ _ _ (by omega)]); with_reducible assumption) | ((rw [setRow_size]); with_reducible assumption) | ((repeat rw [World.cell?_setCell_far _ _ _ _ (by simp)]); with_reducible assumption) | (simp; done) | (simp [World.setCell]; first | done | omega) | (simp [go_sem, World.cell?_alloc_past, World.cell?_setCell_far, *]; done))) ((first | (go_at_call 118; refine (l1Abs_nat u (by omega) (by omega) _).mono ?_; rintro rv w1 ⟨rfl, rfl⟩) | (go_at_call 78; refine (rdSize_any e f (u.natAbs : Int) 0 1 0 true hg (by omega) (by omega) (by omega) (by omega) (by omega) (by omega) (by omega) _).mono ?_; rintro rv w1 ⟨s, rfl, hq, hb⟩; have HQ := Lib.hid (EQ.out s hq); clear hq; have ns : w.heap.size < w1.heap.size := hb.lt (by first | with_reducible assumption | omega | (simp; done) | (simp; omega)); have n0 : w1.cell? ⟨w.heap.size, 0, none⟩ = some (.int .i64 e) := (hb.cells _ _ (by first | with_reducible assumption | omega | (simp; done) | (simp; omega))).trans (by first | with_reducible assumption | (simp; done) | (simp; with_reducible assumption) | (rw [cell_alloc_before _ _ _ _ (by omega)]; with_reducible assumption) | (simp [go_sem, *]; done)); have n1 : w1.cell? ⟨w.heap.size, 1, none⟩ = some (.int .i64 f) := (hb.cells _ _ (by first | with_reducible assumption | omega | (simp; done) | (simp; omega))).trans (by first | with_reducible assumption | (simp; done) | (simp; with_reducible assumption) | (rw [cell_alloc_before _ _ _ _ (by omega)]; with_reducible assumption) | (simp [go_sem, *]; done)); (first | (have nx := Ext.trans hx hb; clear hx) | (have nx := Ext.trans (hx.alloc _) hb; clear hx) | (have nx := Ext.trans hx.drew hb; clear hx) | have nx := hb); clear hb; try clear hs; try clear g0; try clear g1; have hx := nx; clear nx; have hs := ns; clear ns; have g0 := n0; clear n0; have g1 := n1; clear n1) | (go_at_call 77; refine (RSG.out _ HQ.out _).mono ?_; rintro rv w1 ⟨rfl, hb⟩; have ns : w.heap.size < w1.heap.size := hb.lt (by first | with_reducible assumption | omega | (simp; done) | (simp; omega)); have n0 : w1.cell? ⟨w.heap.size, 0, none⟩ = some (.int .i64 e) := (hb.cells _ _ (by first | with_reducible assumption | omega | (simp; done) | (simp; omega))).trans (by first | with_reducible assumption | (simp; done) | (simp; with_reducible assumption) | (rw [cell_alloc_before _ _ _ _ (by omega)]; with_reducible assumption) | (simp [go_sem, *]; done)); have n1 : w1.cell? ⟨w.heap.size, 1, none⟩ = some (.int .i64 f) := (hb.cells _ _ (by first | with_reducible assumption | omega | (simp; done) | (simp; omega))).trans (by first | with_reducible assumption | (simp; done) | (simp; with_reducible assumption) | (rw [cell_alloc_before _ _ _ _ (by omega)]; with_reducible assumption) | (simp [go_sem, *]; done)); (first | (have nx := Ext.trans hx hb; clear hx) | (have nx := Ext.trans (hx.alloc _) hb; clear hx) | (have nx := Ext.trans hx.drew hb; clear hx) | have nx := hb); clear hb; try clear hs; try clear g0; try clear g1; have hx := nx; clear nx; have hs := ns; clear ns; have g0 := n0; clear n0; have g1 := n1; clear n1) | (go_at_call 82; refine (EZ.out _ HQ.out _).mono ?_; rintro rv w1 ⟨rfl, hb⟩; have ns : w.heap.size < w1.heap.size := hb.lt (by first | with_reducible assumption | omega | (simp; done) | (simp; omega)); have n0 : w1.cell? ⟨w.heap.size, 0, none⟩ = some (.int .i64 e) := (hb.cells _ _ (by first | with_reducible assumption | omega | (simp; done) | (simp; omega))).trans (by first | with_reducible assumption | (simp; done) | (simp; with_reducible assumption) | (rw [cell_alloc_before _ _ _ _ (by omega)]; with_reducible assumption) | (simp [go_sem, *]; done)); have n1 : w1.cell? ⟨w.heap.size, 1, none⟩ = some (.int .i64 f) := (hb.cells _ _ (by first | with_reducible assumption | omega | (simp; done) | (simp; omega))).trans (by first | with_reducible assumption | (simp; done) | (simp; with_reducible assumption) | (rw [cell_alloc_before _ _ _ _ (by omega)]; with_reducible assumption) | (simp [go_sem, *]; done)); (first | (have nx := Ext.trans hx hb; clear hx) | (have nx := Ext.trans (hx.alloc _) hb; clear hx) | (have nx := Ext.trans hx.drew hb; clear hx) | have nx := hb); clear hb; try clear hs; try clear g0; try clear g1; have hx := nx; clear nx; have hs := ns; clear ns; have g0 := n0; clear n0; have g1 := n1; clear n1)))
  go_wp2_with fail
  go_ret
  exact ⟨rfl, (by repeat (first | exact Ext.refl _ | with_reducible assumption | apply Ext.alloc | apply Ext.drew | apply Ext.drewN | (refine Ext.setRow ?_ (by first | (simp; done) | (simp; omega) | omega) _) | (refine Ext.setCell ?_ (by first | (simp; done) | (simp; omega) | omega) _) | (refine Ext.trans ?_ (by with_reducible assumption))))⟩

set_option maxHeartbeats 3200000 in
theorem exOf_p (e f u : Int) (hg : goodB e f = true) (h1 : -35184372088832 ≤ u) (h2 : u ≤ 35184372088832) (hd : decide (u < 0) = false) (w : World) : Calls Try.prog 122 #[fmt e f, .int .i64 u] w fun rv w' => rv = .returned (.int .i64 (nsV e f u)) ∧ Ext w w' := by
  have EQ := Lib.hid (fun (s : Int) (h : IsRnd f (grV e f) ((u.natAbs : Int) * 1 + 0) 1 0 false s) => nsP_one (s := s) hg (by
    rw [Int.mul_one, Int.add_zero] at h
    exact h))
  have RSG : RowKit.Hid (∀ (s : Int) (hs : s = nsP e f u) (w : World), Calls Try.prog 77 #[fmt e f, .int .i64 s, .bool false] w fun rv w' => rv = .returned (.int .i64 (s)) ∧ Ext w w') := fun s hs w => by
    obtain ⟨s0, s1⟩ := nsP_bd (u := u) hg
    have gb := gr_bd2 hg
    have := rdSigned_any e f s false hg (by omega) (by omega) w
    exact this
  have EZ : RowKit.Hid (∀ (s : Int) (hs : s = nsP e f u) (w : World), Calls Try.prog 82 #[fmt e f, .int .i64 (s)] w fun rv w' => rv = .returned (.int .i64 (nsV e f u)) ∧ Ext w w') := fun s hs w => by
    obtain ⟨s0, s1⟩ := nsP_bd (u := u) hg
    obtain ⟨q1, q2, q3, q4⟩ := s_parts hg s0 s1
    have pp := pw_pos (e + f)
    have := exZero_any e f (s) hg (by omega) w
    have e1 : ezV e f (s) = nsV e f u := by
      unfold ezV nsV exV
      rw [hs]
      rw [q3, if_neg (of_decide_eq_false hd)]
    rw [e1] at this
    exact this
  go_enter Try.func122, Try.ntmps122
  go_wp2_with fail
  go_region_held3 (fun w' => w'.cell? ⟨w.heap.size, 0, none⟩ = some (.int .i64 e) ∧ w'.cell? ⟨w.heap.size, 1, none⟩ = some (.int .i64 f) ∧ w.heap.size < w'.heap.size) ((refine ⟨?_, ?_, ?_⟩ <;> first | with_reducible assumption | ((rw [cell_setRow_far _ _ _ _ _ (by omega)]); with_reducible assumption) | ((rw [setRow_size]); with_reducible assumption) | ((repeat rw [World.cell?_setCell_far _ _ _ _ (by simp)]); with_reducible assumption) | (simp; done) | (simp [World.setCell]; first | done | omega) | (simp [go_sem, World.cell?_alloc_past, World.cell?_setCell_far, *]; done))) ((first | (go_at_call 118; refine (l1Abs_nat u (by omega) (by omega) _).mono ?_; rintro rv w1 ⟨rfl, rfl⟩) | (go_at_call 78; refine (rdSize_any e f (u.natAbs : Int) 0 1 0 false hg (by omega) (by omega) (by omega) (by omega) (by omega) (by omega) (by omega) _).mono ?_; rintro rv w1 ⟨s, rfl, hq, hb⟩; have HQ := Lib.hid (EQ.out s hq); clear hq; have ns : w.heap.size < w1.heap.size := hb.lt (by first | with_reducible assumption | omega | (simp; done) | (simp; omega)); have n0 : w1.cell? ⟨w.heap.size, 0, none⟩ = some (.int .i64 e) := (hb.cells _ _ (by first | with_reducible assumption | omega | (simp; done) | (simp; omega))).trans (by first | with_reducible assumption | (simp; done) | (simp; with_reducible assumption) | (rw [cell_alloc_before _ _ _ _ (by omega)]; with_reducible assumption) | (simp [go_sem, *]; done)); have n1 : w1.cell? ⟨w.heap.size, 1, none⟩ = some (.int .i64 f) := (hb.cells _ _ (by first | with_reducible assumption | omega | (simp; done) | (simp; omega))).trans (by first | with_reducible assumption | (simp; done) | (simp; with_reducible assumption) | (rw [cell_alloc_before _ _ _ _ (by omega)]; with_reducible assumption) | (simp [go_sem, *]; done)); (first | (have nx := Ext.trans hx hb; clear hx) | (have nx := Ext.trans (hx.alloc _) hb; clear hx) | (have nx := Ext.trans hx.drew hb; clear hx) | have nx := hb); clear hb; try clear hs; try clear g0; try clear g1; have hx := nx; clear nx; have hs := ns; clear ns; have g0 := n0; clear n0; have g1 := n1; clear n1) | (go_at_call 77; refine (RSG.out _ HQ.out _).mono ?_; rintro rv w1 ⟨rfl, hb⟩; have ns : w.heap.size < w1.heap.size := hb.lt (by first | with_reducible assumption | omega | (simp; done) | (simp; omega)); have n0 : w1.cell? ⟨w.heap.size, 0, none⟩ = some (.int .i64 e) := (hb.cells _ _ (by first | with_reducible assumption | omega | (simp; done) | (simp; omega))).trans (by first | with_reducible assumption | (simp; done) | (simp; with_reducible assumption) | (rw [cell_alloc_before _ _ _ _ (by omega)]; with_reducible assumption) | (simp [go_sem, *]; done)); have n1 : w1.cell? ⟨w.heap.size, 1, none⟩ = some (.int .i64 f) := (hb.cells _ _ (by first | with_reducible assumption | omega | (simp; done) | (simp; omega))).trans (by first | with_reducible assumption | (simp; done) | (simp; with_reducible assumption) | (rw [cell_alloc_before _ _ _ _ (by omega)]; with_reducible assumption) | (simp [go_sem, *]; done)); (first | (have nx := Ext.trans hx hb; clear hx) | (have nx := Ext.trans (hx.alloc _) hb; clear hx) | (have nx := Ext.trans hx.drew hb; clear hx) | have nx := hb); clear hb; try clear hs; try clear g0; try clear g1; have hx := nx; clear nx; have hs := ns; clear ns; have g0 := n0; clear n0; have g1 := n1; clear n1) | (go_at_call 82; refine (EZ.out _ HQ.out _).mono ?_; rintro rv w1 ⟨rfl, hb⟩; have ns : w.heap.size < w1.heap.size := hb.lt (by first | with_reducible assumption | omega | (simp; done) | (simp; omega)); have n0 : w1.cell? ⟨w.heap.size, 0, none⟩ = some (.int .i64 e) := (hb.cells _ _ (by first | with_reducible assumption | omega | (simp; done) | (simp; omega))).trans (by first | with_reducible assumption | (simp; done) | (simp; with_reducible assumption) | (rw [cell_alloc_before _ _ _ _ (by omega)]; with_reducible assumption) | (simp [go_sem, *]; done)); have n1 : w1.cell? ⟨w.heap.size, 1, none⟩ = some (.int .i64 f) := (hb.cells _ _ (by first | with_reducible assumption | omega | (simp; done) | (simp; omega))).trans (by first | with_reducible assumption | (simp; done) | (simp; with_reducible assumption) | (rw [cell_alloc_before _ _ _ _ (by omega)]; with_reducible assumption) | (simp [go_sem, *]; done)); (first | (have nx := Ext.trans hx hb; clear hx) | (have nx := Ext.trans (hx.alloc _) hb; clear hx) | (have nx := Ext.trans hx.drew hb; clear hx) | have nx := hb); clear hb; try clear hs; try clear g0; try clear g1; have hx := nx; clear nx; have hs := ns; clear ns; have g0 := n0; clear n0; have g1 := n1; clear n1)))
  go_wp2_with fail
  go_ret
  exact ⟨rfl, (by repeat (first | exact Ext.refl _ | with_reducible assumption | apply Ext.alloc | apply Ext.drew | apply Ext.drewN | (refine Ext.setRow ?_ (by first | (simp; done) | (simp; omega) | omega) _) | (refine Ext.setCell ?_ (by first | (simp; done) | (simp; omega) | omega) _) | (refine Ext.trans ?_ (by with_reducible assumption))))⟩
end Go.Proofs.Ytcbkhlaiefiieac

namespace Go.Proofs.Ytcbkhlaiefiieac
open Go Go.RowKit
set_option linter.unusedSimpArgs false
set_option linter.unusedVariables false
set_option maxRecDepth 100000

theorem exOf_any (e f u : Int) (hg : goodB e f = true) (h1 : -35184372088832 ≤ u) (h2 : u ≤ 35184372088832) (w : World) : Calls Try.prog 122 #[fmt e f, .int .i64 u] w fun rv w' => rv = .returned (.int .i64 (nsV e f u)) ∧ Ext w w' := by
  by_cases h : u < 0
  · exact exOf_n e f u hg h1 h2 (decide_eq_true h) w
  · exact exOf_p e f u hg h1 h2 (decide_eq_false h) w

set_option maxHeartbeats 1600000 in
theorem exSum_any (e f a b : Int) (hg : (finB e f a && finB e f b) = true) (w : World) : Calls Try.prog 60 #[fmt e f, .int .i64 a, .int .i64 b] w fun rv w' => rv = .returned (.tuple #[.int .i64 (nsV e f ((unitsV e f a) + (unitsV e f b))), .bool (nsB e f ((unitsV e f a) + (unitsV e f b)))]) ∧ Ext w w' := by
  obtain ⟨ha, hb2⟩ : finB e f a = true ∧ finB e f b = true := by simpa using hg
  obtain ⟨hgg, _⟩ := fin_size ha
  have hap := (fin_pat ha).1
  have hbp := (fin_pat hb2).1
  obtain ⟨sm1, sm2, sm3, sm4, sm5, sm6⟩ := ns_small ha hb2
  have kw : IntKind.i64.wrap ((unitsV e f a) + (unitsV e f b)) = ((unitsV e f a) + (unitsV e f b)) := IntWalk.i64_in _ (by omega)
  obtain ⟨np, nf⟩ := ns_pat (u := ((unitsV e f a) + (unitsV e f b))) hgg
  have EOA := Lib.hid (fun w => exOf_any e f ((unitsV e f a) + (unitsV e f b)) hgg (by omega) (by omega) w)
  have EFA := Lib.hid (fun w => exFits_any e f _ np w)
  rw [nf] at EFA
  clear nf np sm1 sm2 sm3 sm4 sm5 sm6 ha hb2 hg
  go_enter Try.func60, Try.ntmps60
  go_wp2_with fail
  go_region_held3 (fun w' => w'.cell? ⟨w.heap.size, 0, none⟩ = some (.int .i64 e) ∧ w'.cell? ⟨w.heap.size, 1, none⟩ = some (.int .i64 f) ∧ w.heap.size < w'.heap.size) ((refine ⟨?_, ?_, ?_⟩ <;> first | with_reducible assumption | ((rw [cell_setRow_far _ _ _ _ _ (by omega)]); with_reducible assumption) | ((rw [setRow_size]); with_reducible assumption) | ((repeat rw [World.cell?_setCell_far _ _ _ _ (by simp)]); with_reducible assumption) | (simp; done) | (simp [World.setCell]; first | done | omega) | (simp [go_sem, World.cell?_alloc_past, World.cell?_setCell_far, *]; done))) ((first | (go_at_call 119; (with_reducible refine (fmUnits_any e f a hap _).mono ?_); rintro rv w1 ⟨rfl, hb⟩; have ns : w.heap.size < w1.heap.size := hb.lt (by first | with_reducible assumption | omega | (simp; done) | (simp; omega)); have n0 : w1.cell? ⟨w.heap.size, 0, none⟩ = some (.int .i64 e) := (hb.cells _ _ (by first | with_reducible assumption | omega | (simp; done) | (simp; omega))).trans (by first | with_reducible assumption | (simp; done) | (simp; with_reducible assumption) | (rw [cell_alloc_before _ _ _ _ (by omega)]; with_reducible assumption) | (simp [go_sem, *]; done)); have n1 : w1.cell? ⟨w.heap.size, 1, none⟩ = some (.int .i64 f) := (hb.cells _ _ (by first | with_reducible assumption | omega | (simp; done) | (simp; omega))).trans (by first | with_reducible assumption | (simp; done) | (simp; with_reducible assumption) | (rw [cell_alloc_before _ _ _ _ (by omega)]; with_reducible assumption) | (simp [go_sem, *]; done)); (first | (have nx := Ext.trans hx hb; clear hx) | (have nx := Ext.trans (hx.alloc _) hb; clear hx) | (have nx := Ext.trans hx.drew hb; clear hx) | have nx := hb); clear hb; try clear hs; try clear g0; try clear g1; have hx := nx; clear nx; have hs := ns; clear ns; have g0 := n0; clear n0; have g1 := n1; clear n1) | (go_at_call 119; (with_reducible refine (fmUnits_any e f b hbp _).mono ?_); rintro rv w1 ⟨rfl, hb⟩; have ns : w.heap.size < w1.heap.size := hb.lt (by first | with_reducible assumption | omega | (simp; done) | (simp; omega)); have n0 : w1.cell? ⟨w.heap.size, 0, none⟩ = some (.int .i64 e) := (hb.cells _ _ (by first | with_reducible assumption | omega | (simp; done) | (simp; omega))).trans (by first | with_reducible assumption | (simp; done) | (simp; with_reducible assumption) | (rw [cell_alloc_before _ _ _ _ (by omega)]; with_reducible assumption) | (simp [go_sem, *]; done)); have n1 : w1.cell? ⟨w.heap.size, 1, none⟩ = some (.int .i64 f) := (hb.cells _ _ (by first | with_reducible assumption | omega | (simp; done) | (simp; omega))).trans (by first | with_reducible assumption | (simp; done) | (simp; with_reducible assumption) | (rw [cell_alloc_before _ _ _ _ (by omega)]; with_reducible assumption) | (simp [go_sem, *]; done)); (first | (have nx := Ext.trans hx hb; clear hx) | (have nx := Ext.trans (hx.alloc _) hb; clear hx) | (have nx := Ext.trans hx.drew hb; clear hx) | have nx := hb); clear hb; try clear hs; try clear g0; try clear g1; have hx := nx; clear nx; have hs := ns; clear ns; have g0 := n0; clear n0; have g1 := n1; clear n1) | (go_at_call 122; refine (EOA.out _).mono ?_; rintro rv w1 ⟨rfl, hb⟩; have ns : w.heap.size < w1.heap.size := hb.lt (by first | with_reducible assumption | omega | (simp; done) | (simp; omega)); have n0 : w1.cell? ⟨w.heap.size, 0, none⟩ = some (.int .i64 e) := (hb.cells _ _ (by first | with_reducible assumption | omega | (simp; done) | (simp; omega))).trans (by first | with_reducible assumption | (simp; done) | (simp; with_reducible assumption) | (rw [cell_alloc_before _ _ _ _ (by omega)]; with_reducible assumption) | (simp [go_sem, *]; done)); have n1 : w1.cell? ⟨w.heap.size, 1, none⟩ = some (.int .i64 f) := (hb.cells _ _ (by first | with_reducible assumption | omega | (simp; done) | (simp; omega))).trans (by first | with_reducible assumption | (simp; done) | (simp; with_reducible assumption) | (rw [cell_alloc_before _ _ _ _ (by omega)]; with_reducible assumption) | (simp [go_sem, *]; done)); (first | (have nx := Ext.trans hx hb; clear hx) | (have nx := Ext.trans (hx.alloc _) hb; clear hx) | (have nx := Ext.trans hx.drew hb; clear hx) | have nx := hb); clear hb; try clear hs; try clear g0; try clear g1; have hx := nx; clear nx; have hs := ns; clear ns; have g0 := n0; clear n0; have g1 := n1; clear n1)))
  go_wp2_with (go_at_call 83; refine (EFA.out _).mono ?_; rintro rv w1 ⟨rfl, hb⟩; have ns : w.heap.size < w1.heap.size := hb.lt (by first | with_reducible assumption | omega | (simp; done) | (simp; omega)); have n0 : w1.cell? ⟨w.heap.size, 0, none⟩ = some (.int .i64 e) := (hb.cells _ _ (by first | with_reducible assumption | omega | (simp; done) | (simp; omega))).trans (by first | with_reducible assumption | (simp; done) | (simp; with_reducible assumption) | (rw [cell_alloc_before _ _ _ _ (by omega)]; with_reducible assumption) | (simp [go_sem, *]; done)); have n1 : w1.cell? ⟨w.heap.size, 1, none⟩ = some (.int .i64 f) := (hb.cells _ _ (by first | with_reducible assumption | omega | (simp; done) | (simp; omega))).trans (by first | with_reducible assumption | (simp; done) | (simp; with_reducible assumption) | (rw [cell_alloc_before _ _ _ _ (by omega)]; with_reducible assumption) | (simp [go_sem, *]; done)); (first | (have nx := Ext.trans hx hb; clear hx) | (have nx := Ext.trans (hx.alloc _) hb; clear hx) | (have nx := Ext.trans hx.drew hb; clear hx) | have nx := hb); clear hb; try clear hs; try clear g0; try clear g1; have hx := nx; clear nx; have hs := ns; clear ns; have g0 := n0; clear n0; have g1 := n1; clear n1)
  try (go_region_held3 (fun w' => w'.cell? ⟨w.heap.size, 0, none⟩ = some (.int .i64 e) ∧ w'.cell? ⟨w.heap.size, 1, none⟩ = some (.int .i64 f) ∧ w.heap.size < w'.heap.size) ((refine ⟨?_, ?_, ?_⟩ <;> first | with_reducible assumption | ((rw [cell_setRow_far _ _ _ _ _ (by omega)]); with_reducible assumption) | ((rw [setRow_size]); with_reducible assumption) | ((repeat rw [World.cell?_setCell_far _ _ _ _ (by simp)]); with_reducible assumption) | (simp; done) | (simp [World.setCell]; first | done | omega) | (simp [go_sem, World.cell?_alloc_past, World.cell?_setCell_far, *]; done))) ((first | (go_at_call 83; refine (EFA.out _).mono ?_; rintro rv w1 ⟨rfl, hb⟩; have ns : w.heap.size < w1.heap.size := hb.lt (by first | with_reducible assumption | omega | (simp; done) | (simp; omega)); have n0 : w1.cell? ⟨w.heap.size, 0, none⟩ = some (.int .i64 e) := (hb.cells _ _ (by first | with_reducible assumption | omega | (simp; done) | (simp; omega))).trans (by first | with_reducible assumption | (simp; done) | (simp; with_reducible assumption) | (rw [cell_alloc_before _ _ _ _ (by omega)]; with_reducible assumption) | (simp [go_sem, *]; done)); have n1 : w1.cell? ⟨w.heap.size, 1, none⟩ = some (.int .i64 f) := (hb.cells _ _ (by first | with_reducible assumption | omega | (simp; done) | (simp; omega))).trans (by first | with_reducible assumption | (simp; done) | (simp; with_reducible assumption) | (rw [cell_alloc_before _ _ _ _ (by omega)]; with_reducible assumption) | (simp [go_sem, *]; done)); (first | (have nx := Ext.trans hx hb; clear hx) | (have nx := Ext.trans (hx.alloc _) hb; clear hx) | (have nx := Ext.trans hx.drew hb; clear hx) | have nx := hb); clear hb; try clear hs; try clear g0; try clear g1; have hx := nx; clear nx; have hs := ns; clear ns; have g0 := n0; clear n0; have g1 := n1; clear n1))))
  try go_wp2_with fail
  go_ret2
  exact ⟨rfl, (by repeat (first | exact Ext.refl _ | with_reducible assumption | apply Ext.alloc | apply Ext.drew | apply Ext.drewN | (refine Ext.setRow ?_ (by first | (simp; done) | (simp; omega) | omega) _) | (refine Ext.setCell ?_ (by first | (simp; done) | (simp; omega) | omega) _) | (refine Ext.trans ?_ (by with_reducible assumption))))⟩

theorem sNearSum_no (e f a b : Int) (hg : (finB e f a && finB e f b) = false) (w : World) : Calls Try.prog 15 #[fmt e f, .int .i64 a, .int .i64 b] w fun rv w' => rv = .returned (.tuple #[.int .i64 0, .bool false]) ∧ Ext w w' := by
  go_enter Try.func15, Try.ntmps15
  go_wp2_with (go_at_call 59; refine (exBoth_any e f a b _).mono ?_; rintro rv w1 ⟨rfl, hb⟩; have ns : w.heap.size < w1.heap.size := hb.lt (by first | with_reducible assumption | omega | (simp; done) | (simp; omega)); have n0 : w1.cell? ⟨w.heap.size, 0, none⟩ = some (.int .i64 e) := (hb.cells _ _ (by first | with_reducible assumption | omega | (simp; done) | (simp; omega))).trans (by first | with_reducible assumption | (simp; done) | (simp; with_reducible assumption) | (rw [cell_alloc_before _ _ _ _ (by omega)]; with_reducible assumption) | (simp [go_sem, *]; done)); have n1 : w1.cell? ⟨w.heap.size, 1, none⟩ = some (.int .i64 f) := (hb.cells _ _ (by first | with_reducible assumption | omega | (simp; done) | (simp; omega))).trans (by first | with_reducible assumption | (simp; done) | (simp; with_reducible assumption) | (rw [cell_alloc_before _ _ _ _ (by omega)]; with_reducible assumption) | (simp [go_sem, *]; done)); (first | (have nx := Ext.trans hx hb; clear hx) | (have nx := Ext.trans (hx.alloc _) hb; clear hx) | (have nx := Ext.trans hx.drew hb; clear hx) | have nx := hb); clear hb; try clear hs; try clear g0; try clear g1; have hx := nx; clear nx; have hs := ns; clear ns; have g0 := n0; clear n0; have g1 := n1; clear n1)
  go_ret2
  exact ⟨rfl, (by repeat (first | exact Ext.refl _ | with_reducible assumption | apply Ext.alloc | apply Ext.drew | apply Ext.drewN | (refine Ext.setRow ?_ (by first | (simp; done) | (simp; omega) | omega) _) | (refine Ext.setCell ?_ (by first | (simp; done) | (simp; omega) | omega) _) | (refine Ext.trans ?_ (by with_reducible assumption))))⟩

theorem sNearSum_yes (e f a b : Int) (hg : (finB e f a && finB e f b) = true) (w : World) : Calls Try.prog 15 #[fmt e f, .int .i64 a, .int .i64 b] w fun rv w' => rv = .returned (.tuple #[.int .i64 (nsR e f ((unitsV e f a) + (unitsV e f b))), .bool (nsB e f ((unitsV e f a) + (unitsV e f b)))]) ∧ Ext w w' := by
  unfold nsR
  have ESA := fun w => exSum_any e f a b hg w
  generalize nsV e f ((unitsV e f a) + (unitsV e f b)) = v at *
  have ESH := Lib.hid ESA; clear ESA
  cases h : nsB e f ((unitsV e f a) + (unitsV e f b))
  · rw [h] at ESH
    go_enter Try.func15, Try.ntmps15
    go_wp2_with (first | (go_at_call 59; refine (exBoth_any e f a b _).mono ?_; rintro rv w1 ⟨rfl, hb⟩; have ns : w.heap.size < w1.heap.size := hb.lt (by first | with_reducible assumption | omega | (simp; done) | (simp; omega)); have n0 : w1.cell? ⟨w.heap.size, 0, none⟩ = some (.int .i64 e) := (hb.cells _ _ (by first | with_reducible assumption | omega | (simp; done) | (simp; omega))).trans (by first | with_reducible assumption | (simp; done) | (simp; with_reducible assumption) | (rw [cell_alloc_before _ _ _ _ (by omega)]; with_reducible assumption) | (simp [go_sem, *]; done)); have n1 : w1.cell? ⟨w.heap.size, 1, none⟩ = some (.int .i64 f) := (hb.cells _ _ (by first | with_reducible assumption | omega | (simp; done) | (simp; omega))).trans (by first | with_reducible assumption | (simp; done) | (simp; with_reducible assumption) | (rw [cell_alloc_before _ _ _ _ (by omega)]; with_reducible assumption) | (simp [go_sem, *]; done)); (first | (have nx := Ext.trans hx hb; clear hx) | (have nx := Ext.trans (hx.alloc _) hb; clear hx) | (have nx := Ext.trans hx.drew hb; clear hx) | have nx := hb); clear hb; try clear hs; try clear g0; try clear g1; have hx := nx; clear nx; have hs := ns; clear ns; have g0 := n0; clear n0; have g1 := n1; clear n1) | (go_at_call 60; refine (ESH.out _).mono ?_; rintro rv w1 ⟨rfl, hb⟩; have ns : w.heap.size < w1.heap.size := hb.lt (by first | with_reducible assumption | omega | (simp; done) | (simp; omega)); have n0 : w1.cell? ⟨w.heap.size, 0, none⟩ = some (.int .i64 e) := (hb.cells _ _ (by first | with_reducible assumption | omega | (simp; done) | (simp; omega))).trans (by first | with_reducible assumption | (simp; done) | (simp; with_reducible assumption) | (rw [cell_alloc_before _ _ _ _ (by omega)]; with_reducible assumption) | (simp [go_sem, *]; done)); have n1 : w1.cell? ⟨w.heap.size, 1, none⟩ = some (.int .i64 f) := (hb.cells _ _ (by first | with_reducible assumption | omega | (simp; done) | (simp; omega))).trans (by first | with_reducible assumption | (simp; done) | (simp; with_reducible assumption) | (rw [cell_alloc_before _ _ _ _ (by omega)]; with_reducible assumption) | (simp [go_sem, *]; done)); (first | (have nx := Ext.trans hx hb; clear hx) | (have nx := Ext.trans (hx.alloc _) hb; clear hx) | (have nx := Ext.trans hx.drew hb; clear hx) | have nx := hb); clear hb; try clear hs; try clear g0; try clear g1; have hx := nx; clear nx; have hs := ns; clear ns; have g0 := n0; clear n0; have g1 := n1; clear n1))
    go_ret2
    exact ⟨rfl, (by repeat (first | exact Ext.refl _ | with_reducible assumption | apply Ext.alloc | apply Ext.drew | apply Ext.drewN | (refine Ext.setRow ?_ (by first | (simp; done) | (simp; omega) | omega) _) | (refine Ext.setCell ?_ (by first | (simp; done) | (simp; omega) | omega) _) | (refine Ext.trans ?_ (by with_reducible assumption))))⟩
  · rw [h] at ESH
    go_enter Try.func15, Try.ntmps15
    go_wp2_with (first | (go_at_call 59; refine (exBoth_any e f a b _).mono ?_; rintro rv w1 ⟨rfl, hb⟩; have ns : w.heap.size < w1.heap.size := hb.lt (by first | with_reducible assumption | omega | (simp; done) | (simp; omega)); have n0 : w1.cell? ⟨w.heap.size, 0, none⟩ = some (.int .i64 e) := (hb.cells _ _ (by first | with_reducible assumption | omega | (simp; done) | (simp; omega))).trans (by first | with_reducible assumption | (simp; done) | (simp; with_reducible assumption) | (rw [cell_alloc_before _ _ _ _ (by omega)]; with_reducible assumption) | (simp [go_sem, *]; done)); have n1 : w1.cell? ⟨w.heap.size, 1, none⟩ = some (.int .i64 f) := (hb.cells _ _ (by first | with_reducible assumption | omega | (simp; done) | (simp; omega))).trans (by first | with_reducible assumption | (simp; done) | (simp; with_reducible assumption) | (rw [cell_alloc_before _ _ _ _ (by omega)]; with_reducible assumption) | (simp [go_sem, *]; done)); (first | (have nx := Ext.trans hx hb; clear hx) | (have nx := Ext.trans (hx.alloc _) hb; clear hx) | (have nx := Ext.trans hx.drew hb; clear hx) | have nx := hb); clear hb; try clear hs; try clear g0; try clear g1; have hx := nx; clear nx; have hs := ns; clear ns; have g0 := n0; clear n0; have g1 := n1; clear n1) | (go_at_call 60; refine (ESH.out _).mono ?_; rintro rv w1 ⟨rfl, hb⟩; have ns : w.heap.size < w1.heap.size := hb.lt (by first | with_reducible assumption | omega | (simp; done) | (simp; omega)); have n0 : w1.cell? ⟨w.heap.size, 0, none⟩ = some (.int .i64 e) := (hb.cells _ _ (by first | with_reducible assumption | omega | (simp; done) | (simp; omega))).trans (by first | with_reducible assumption | (simp; done) | (simp; with_reducible assumption) | (rw [cell_alloc_before _ _ _ _ (by omega)]; with_reducible assumption) | (simp [go_sem, *]; done)); have n1 : w1.cell? ⟨w.heap.size, 1, none⟩ = some (.int .i64 f) := (hb.cells _ _ (by first | with_reducible assumption | omega | (simp; done) | (simp; omega))).trans (by first | with_reducible assumption | (simp; done) | (simp; with_reducible assumption) | (rw [cell_alloc_before _ _ _ _ (by omega)]; with_reducible assumption) | (simp [go_sem, *]; done)); (first | (have nx := Ext.trans hx hb; clear hx) | (have nx := Ext.trans (hx.alloc _) hb; clear hx) | (have nx := Ext.trans hx.drew hb; clear hx) | have nx := hb); clear hb; try clear hs; try clear g0; try clear g1; have hx := nx; clear nx; have hs := ns; clear ns; have g0 := n0; clear n0; have g1 := n1; clear n1))
    go_ret2
    exact ⟨rfl, (by repeat (first | exact Ext.refl _ | with_reducible assumption | apply Ext.alloc | apply Ext.drew | apply Ext.drewN | (refine Ext.setRow ?_ (by first | (simp; done) | (simp; omega) | omega) _) | (refine Ext.setCell ?_ (by first | (simp; done) | (simp; omega) | omega) _) | (refine Ext.trans ?_ (by with_reducible assumption))))⟩

theorem near_two (e f a b : Int) (ha : finB e f a = true) (hb2 : finB e f b = true) (gl cap : Nat) (w : World) (c0 : w.cell? ⟨gl, 0, none⟩ = some (.float .f32 (cw (unitsV e f a)))) (c1 : w.cell? ⟨gl, 1, none⟩ = some (.float .f32 (cw (unitsV e f b)))) (hgl : gl < w.heap.size) :
    Calls Try.prog 63 #[fmt e f, .slice (some ⟨gl, 0, none⟩) 2 cap] w fun rv w' => rv = .returned (.float .f32 (nrW e f (decide (((unitsV e f a) + (unitsV e f b)) < 0)) (nsP e f ((unitsV e f a) + (unitsV e f b))))) ∧ Ext w w' :=
  near2G e f _ _ _ _ _ _ gl cap (add_zero_cw (ok_units ha)) (fun w => nearest_val e f a ha w) (add_cw (ok_units ha) (ok_units hb2)) (fun w => nearest_sum e f a b ha hb2 w) w c0 c1 hgl

theorem iNearSum_no (e f a b : Int) (hg : (finB e f a && finB e f b) = false) (w : World) : Calls Try.prog 16 #[fmt e f, .int .i64 a, .int .i64 b] w fun rv w' => rv = .returned (.tuple #[.int .i64 0, .bool false]) ∧ Ext w w' := by
  go_enter Try.func16, Try.ntmps16
  go_wp2_with (go_at_call 61; (with_reducible refine (valuesOf2_no e f a b (w.heap.size + 1) hg _ (by first | with_reducible assumption | (simp; done) | (simp [go_sem]; done) | (simp [go_sem, *]; done)) (by first | with_reducible assumption | (simp; done) | (simp [go_sem]; done) | (simp [go_sem, *]; done)) (by simp; try omega)).mono ?_); rintro rv w1 ⟨rfl, hb⟩; have hx : Ext w w1 := Ext.trans (by repeat (first | exact Ext.refl _ | with_reducible assumption | apply Ext.alloc | apply Ext.drew | apply Ext.drewN | (refine Ext.setRow ?_ (by first | (simp; done) | (simp; omega) | omega) _) | (refine Ext.setCell ?_ (by first | (simp; done) | (simp; omega) | omega) _) | (refine Ext.trans ?_ (by with_reducible assumption)))) hb; clear hb)
  go_ret2
  exact ⟨rfl, hx⟩

set_option maxHeartbeats 1600000 in
theorem iNearSum_yes (e f a b : Int) (hg : (finB e f a && finB e f b) = true) (w : World) : Calls Try.prog 16 #[fmt e f, .int .i64 a, .int .i64 b] w fun rv w' => rv = .returned (.tuple #[.int .i64 (nsR e f ((unitsV e f a) + (unitsV e f b))), .bool (nsB e f ((unitsV e f a) + (unitsV e f b)))]) ∧ Ext w w' := by
  obtain ⟨ha, hb2⟩ : finB e f a = true ∧ finB e f b = true := by simpa using hg
  obtain ⟨hgg, _⟩ := fin_size ha
  have hap := (fin_pat ha).1
  have hbp := (fin_pat hb2).1
  obtain ⟨sm1, sm2, sm3, sm4, sm5, sm6⟩ := ns_small ha hb2
  have PVA := Lib.hid (fun w => pv_ns e f ((unitsV e f a) + (unitsV e f b)) hgg w)
  have NEA := Lib.hid (fun gl cap w c0 c1 hgl => near_two e f a b ha hb2 gl cap w c0 c1 hgl)
  generalize nrW e f (decide (((unitsV e f a) + (unitsV e f b)) < 0)) (nsP e f ((unitsV e f a) + (unitsV e f b))) = x9 at *
  go_enter Try.func16, Try.ntmps16
  go_wp2_with (go_at_call 61; (with_reducible refine (valuesOf2 e f a b (w.heap.size + 1) ha hb2 _ (by first | with_reducible assumption | (simp; done) | (simp [go_sem]; done) | (simp [go_sem, *]; done)) (by first | with_reducible assumption | (simp; done) | (simp [go_sem]; done) | (simp [go_sem, *]; done)) (by simp; try omega)).mono ?_); rintro rv w1 ⟨gl, cap, rfl, q1, q2, c0, c1, hb⟩; rw [int_cw] at c0 c1; have c0 := c0; have c1 := c1; have ns : w.heap.size < w1.heap.size := hb.lt (by first | (simp; done) | (simp; omega)); have g0 : w1.cell? ⟨w.heap.size, 0, none⟩ = some (.int .i64 e) := (hb.cells _ _ (by first | (simp; done) | (simp; omega))).trans (by first | (simp; done) | (simp [go_sem, *]; done)); have g1 : w1.cell? ⟨w.heap.size, 1, none⟩ = some (.int .i64 f) := (hb.cells _ _ (by first | (simp; done) | (simp; omega))).trans (by first | (simp; done) | (simp [go_sem, *]; done)); have hx : Ext w w1 := Ext.trans (by repeat (first | exact Ext.refl _ | with_reducible assumption | apply Ext.alloc | apply Ext.drew | apply Ext.drewN | (refine Ext.setRow ?_ (by first | (simp; done) | (simp; omega) | omega) _) | (refine Ext.setCell ?_ (by first | (simp; done) | (simp; omega) | omega) _) | (refine Ext.trans ?_ (by with_reducible assumption)))) hb; clear hb)
  have hs : max w.heap.size gl < w1.heap.size := by omega
  go_region_held3 (fun w' => w'.cell? ⟨w.heap.size, 0, none⟩ = some (.int .i64 e) ∧ w'.cell? ⟨w.heap.size, 1, none⟩ = some (.int .i64 f) ∧ w'.cell? ⟨gl, 0, none⟩ = some (.float .f32 (cw (unitsV e f a))) ∧ w'.cell? ⟨gl, 1, none⟩ = some (.float .f32 (cw (unitsV e f b))) ∧ max w.heap.size gl < w'.heap.size) ((refine ⟨?_, ?_, ?_, ?_, ?_⟩ <;> first | with_reducible assumption | ((repeat first | rw [cell_set_far _ _ _ _ _ _ (by omega)] | rw [cell_alloc_before _ _ _ _ (by omega)] | rw [cell_alloc_drew _ _ _ _ (by omega)] | rw [cell_drew]); with_reducible assumption) | ((rw [cell_setRow_far _ _ _ _ _ (by omega)]); with_reducible assumption) | ((rw [setRow_size]); with_reducible assumption) | (simp; done) | (simp [World.setCell]; first | done | omega) | (simp [go_sem, World.cell?_alloc_past, World.cell?_setCell_far, *]; done))) ((first | (go_at_call 63; refine (NEA.out gl _ _ (by first | with_reducible assumption | (simp; done) | (simp [go_sem]; done) | (simp [go_sem, *]; done)) (by first | with_reducible assumption | (simp; done) | (simp [go_sem]; done) | (simp [go_sem, *]; done)) (by first | omega | (simp; omega))).mono ?_; rintro rv w1 ⟨rfl, hb⟩; have ns : max w.heap.size gl < w1.heap.size := hb.lt (by first | with_reducible assumption | omega | (simp; done) | (simp; omega)); have n0 : w1.cell? ⟨w.heap.size, 0, none⟩ = some (.int .i64 e) := (hb.cells _ _ (by first | with_reducible assumption | omega | (simp; done) | (simp; omega))).trans (by first | with_reducible assumption | (simp; done) | (simp; with_reducible assumption) | (rw [cell_alloc_before _ _ _ _ (by omega)]; with_reducible assumption) | (simp [go_sem, *]; done)); have n1 : w1.cell? ⟨w.heap.size, 1, none⟩ = some (.int .i64 f) := (hb.cells _ _ (by first | with_reducible assumption | omega | (simp; done) | (simp; omega))).trans (by first | with_reducible assumption | (simp; done) | (simp; with_reducible assumption) | (rw [cell_alloc_before _ _ _ _ (by omega)]; with_reducible assumption) | (simp [go_sem, *]; done)); have n2 : w1.cell? ⟨gl, 0, none⟩ = some (.float .f32 (cw (unitsV e f a))) := (hb.cells _ _ (by first | with_reducible assumption | omega | (simp; done) | (simp; omega))).trans (by first | with_reducible assumption | (simp; done) | (simp; with_reducible assumption) | (rw [cell_alloc_before _ _ _ _ (by omega)]; with_reducible assumption) | (simp [go_sem, *]; done)); have n3 : w1.cell? ⟨gl, 1, none⟩ = some (.float .f32 (cw (unitsV e f b))) := (hb.cells _ _ (by first | with_reducible assumption | omega | (simp; done) | (simp; omega))).trans (by first | with_reducible assumption | (simp; done) | (simp; with_reducible assumption) | (rw [cell_alloc_before _ _ _ _ (by omega)]; with_reducible assumption) | (simp [go_sem, *]; done)); (first | (have nx := Ext.trans hx hb; clear hx) | (have nx := Ext.trans (hx.alloc _) hb; clear hx) | (have nx := Ext.trans hx.drew hb; clear hx) | have nx := hb); clear hb; try clear hs; try clear g0; try clear g1; try clear g2; try clear g3; have hx := nx; clear nx; have hs := ns; clear ns; have g0 := n0; clear n0; have g1 := n1; clear n1; have g2 := n2; clear n2; have g3 := n3; clear n3) | (go_at_call 62; refine (PVA.out _).mono ?_; rintro rv w1 ⟨rfl, hb⟩; have ns : max w.heap.size gl < w1.heap.size := hb.lt (by first | with_reducible assumption | omega | (simp; done) | (simp; omega)); have n0 : w1.cell? ⟨w.heap.size, 0, none⟩ = some (.int .i64 e) := (hb.cells _ _ (by first | with_reducible assumption | omega | (simp; done) | (simp; omega))).trans (by first | with_reducible assumption | (simp; done) | (simp; with_reducible assumption) | (rw [cell_alloc_before _ _ _ _ (by omega)]; with_reducible assumption) | (simp [go_sem, *]; done)); have n1 : w1.cell? ⟨w.heap.size, 1, none⟩ = some (.int .i64 f) := (hb.cells _ _ (by first | with_reducible assumption | omega | (simp; done) | (simp; omega))).trans (by first | with_reducible assumption | (simp; done) | (simp; with_reducible assumption) | (rw [cell_alloc_before _ _ _ _ (by omega)]; with_reducible assumption) | (simp [go_sem, *]; done)); have n2 : w1.cell? ⟨gl, 0, none⟩ = some (.float .f32 (cw (unitsV e f a))) := (hb.cells _ _ (by first | with_reducible assumption | omega | (simp; done) | (simp; omega))).trans (by first | with_reducible assumption | (simp; done) | (simp; with_reducible assumption) | (rw [cell_alloc_before _ _ _ _ (by omega)]; with_reducible assumption) | (simp [go_sem, *]; done)); have n3 : w1.cell? ⟨gl, 1, none⟩ = some (.float .f32 (cw (unitsV e f b))) := (hb.cells _ _ (by first | with_reducible assumption | omega | (simp; done) | (simp; omega))).trans (by first | with_reducible assumption | (simp; done) | (simp; with_reducible assumption) | (rw [cell_alloc_before _ _ _ _ (by omega)]; with_reducible assumption) | (simp [go_sem, *]; done)); (first | (have nx := Ext.trans hx hb; clear hx) | (have nx := Ext.trans (hx.alloc _) hb; clear hx) | (have nx := Ext.trans hx.drew hb; clear hx) | have nx := hb); clear hb; try clear hs; try clear g0; try clear g1; try clear g2; try clear g3; have hx := nx; clear nx; have hs := ns; clear ns; have g0 := n0; clear n0; have g1 := n1; clear n1; have g2 := n2; clear n2; have g3 := n3; clear n3)))
  go_wp2_with fail
  go_ret2
  exact ⟨rfl, (by repeat (first | exact Ext.refl _ | with_reducible assumption | apply Ext.alloc | apply Ext.drew | apply Ext.drewN | (refine Ext.setRow ?_ (by first | (simp; done) | (simp; omega) | omega) _) | (refine Ext.setCell ?_ (by first | (simp; done) | (simp; omega) | omega) _) | (refine Ext.trans ?_ (by with_reducible assumption))))⟩
end Go.Proofs.Ytcbkhlaiefiieac

namespace Go.Proofs.Ytcbkhlaiefiieac
open Go Go.RowKit
set_option linter.unusedSimpArgs false
set_option linter.unusedVariables false
set_option maxRecDepth 100000

set_option maxHeartbeats 3200000 in
theorem patternsOf2_ (e f p q : Int) (x0 x1 g : Nat) (PX : RowKit.Hid (∀ w, Calls Try.prog 62 #[fmt e f, .float .f32 x0] w fun rv w' => rv = .returned (.tuple #[.int .i64 p, .bool true]) ∧ Ext w w')) (PY : RowKit.Hid (∀ w, Calls Try.prog 62 #[fmt e f, .float .f32 x1] w fun rv w' => rv = .returned (.tuple #[.int .i64 q, .bool true]) ∧ Ext w w')) (w : World) (c0 : w.cell? ⟨g, 0, none⟩ = some (.float .f32 x0)) (c1 : w.cell? ⟨g, 1, none⟩ = some (.float .f32 x1)) (hg : g < w.heap.size) :
    Calls Try.prog 124 #[fmt e f, .slice (some ⟨g, 0, none⟩) 2 2] w fun rv w' => ∃ v, rv = .returned (.tuple #[v, .bool true]) ∧ w'.ownsRow (w.heap.size + 1) 3 1 v 2 [.int .i64 p, .int .i64 q] ∧ Ext w w' := by
  obtain ⟨i, hi, hz, hsz, hby⟩ : ∃ i, Try.prog.info? 3 = some i ∧ i.zero = some (Value.int .i64 0) ∧ i.size = 1 ∧ i.bytes = 8 := by
    cases h : Try.prog.info? 3 with
    | none => exact absurd h (by have : (Try.prog.info? 3).isSome = true := by kernel_rfl
                                 intro h2; rw [h2] at this; cases this)
    | some i =>
      refine ⟨i, rfl, ?_, ?_, ?_⟩
      · have : (Try.prog.info? 3).map (·.zero) = some (some (Value.int .i64 0)) := by kernel_rfl
        rw [h] at this; exact Option.some.inj this
      · have : (Try.prog.info? 3).map (·.size) = some 1 := by kernel_rfl
        rw [h] at this; exact Option.some.inj this
      · have : (Try.prog.info? 3).map (·.bytes) = some 8 := by kernel_rfl
        rw [h] at this; exact Option.some.inj this
  have HI := Lib.hid hi; have HZ := Lib.hid hz; have HSZ := Lib.hid hsz; have HBY := Lib.hid hby; clear hi hz hsz hby
  go_enter Try.func124, Try.ntmps124
  go_wp2_with fail
  have own0 := (World.ownsRow_lit (base := w.heap.size + 1) (e := 3) (size := 1) (w.alloc (.cells #[.int .i64 e, .int .i64 f] 26)) #[] 0 (by simp) (by decide) rfl)
  rw [World.size_alloc] at own0
  have OWN := Lib.hid own0; clear own0
  refine wp_loop_rounds 3 ?_
  rw [rounds_succ]
  go_wp2_with (first | (go_at_call 62; (with_reducible refine (PX.out _).mono ?_); rintro rv w1 ⟨rfl, hb⟩; (first | (have OWN9 := Lib.hid (own_ext OWN.out hb); clear OWN; have OWN := OWN9; clear OWN9) | (have OWN9 := Lib.hid (own_ext (own_ext OWN.out (Ext.new _ _)) hb); clear OWN; have OWN := OWN9; clear OWN9)); have ns : max w.heap.size g < w1.heap.size := hb.lt (by first | with_reducible assumption | omega | (simp; done) | (simp; omega)); have n0 : w1.cell? ⟨w.heap.size, 0, none⟩ = some (.int .i64 e) := (hb.cells _ _ (by first | with_reducible assumption | omega | (simp; done) | (simp; omega))).trans (by first | with_reducible assumption | (simp; done) | (simp; with_reducible assumption) | (rw [cell_alloc_before _ _ _ _ (by omega)]; with_reducible assumption) | (simp [go_sem, *]; done)); have n1 : w1.cell? ⟨w.heap.size, 1, none⟩ = some (.int .i64 f) := (hb.cells _ _ (by first | with_reducible assumption | omega | (simp; done) | (simp; omega))).trans (by first | with_reducible assumption | (simp; done) | (simp; with_reducible assumption) | (rw [cell_alloc_before _ _ _ _ (by omega)]; with_reducible assumption) | (simp [go_sem, *]; done)); have n2 : w1.cell? ⟨g, 0, none⟩ = some (.float .f32 x0) := (hb.cells _ _ (by first | with_reducible assumption | omega | (simp; done) | (simp; omega))).trans (by first | with_reducible assumption | (simp; done) | (simp; with_reducible assumption) | (rw [cell_alloc_before _ _ _ _ (by omega)]; with_reducible assumption) | (simp [go_sem, *]; done)); have n3 : w1.cell? ⟨g, 1, none⟩ = some (.float .f32 x1) := (hb.cells _ _ (by first | with_reducible assumption | omega | (simp; done) | (simp; omega))).trans (by first | with_reducible assumption | (simp; done) | (simp; with_reducible assumption) | (rw [cell_alloc_before _ _ _ _ (by omega)]; with_reducible assumption) | (simp [go_sem, *]; done)); (first | (have nx := Ext.trans hx hb; clear hx) | (have nx := Ext.trans (hx.alloc _) hb; clear hx) | (have nx := Ext.trans hx.drew hb; clear hx) | have nx := hb); clear hb; try clear hs; try clear g0; try clear g1; try clear g2; try clear g3; have hx := nx; clear nx; have hs := ns; clear ns; have g0 := n0; clear n0; have g1 := n1; clear n1; have g2 := n2; clear n2; have g3 := n3; clear n3) | (at_builtin; (refine wpList_append_own _ rfl (.tmp 26) (.tmp 28) 31 rfl (w.heap.size + 1) 3 i _ 1 8 Try.underlying31 HI.out HZ.out HSZ.out HBY.out rfl (by decide) (.slice (some ⟨w.heap.size + 1, 0, none⟩) 0 0) 0 [] rfl (own_ext OWN.out (Ext.new _ _)) _ 1 1 [.int .i64 p] rfl rfl (fun j u hj => by cases j with | zero => (simp at hj; subst hj; simp [go_sem, Addr.add]) | succ j => simp at hj) (by simp [Value.oneCell']) (by simp [maxLen]) (by omega) (by simp; omega) ?_); intro v9 w9 OWN8 hgr _; have hne : ∀ k, k < w.heap.size + 1 → some k ≠ Value.ownBlock (.slice (some ⟨w.heap.size + 1, 0, none⟩) 0 0) := fun k hk h => (by have := (World.ownsRow.lt OWN.out _ h.symm).1; omega); have c0 : w9.cell? ⟨w.heap.size, 0, none⟩ = some (.int .i64 e) := hgr.cell ((cell_alloc_before _ _ (w.heap.size) 0 (by omega)).trans (by with_reducible assumption)) (hne (w.heap.size) (by omega)); have c1 : w9.cell? ⟨w.heap.size, 1, none⟩ = some (.int .i64 f) := hgr.cell ((cell_alloc_before _ _ (w.heap.size) 1 (by omega)).trans (by with_reducible assumption)) (hne (w.heap.size) (by omega)); have c2 : w9.cell? ⟨g, 0, none⟩ = some (.float .f32 x0) := hgr.cell ((cell_alloc_before _ _ (g) 0 (by omega)).trans (by with_reducible assumption)) (hne (g) (by omega)); have c3 : w9.cell? ⟨g, 1, none⟩ = some (.float .f32 x1) := hgr.cell ((cell_alloc_before _ _ (g) 1 (by omega)).trans (by with_reducible assumption)) (hne (g) (by omega)); have sz : w1.heap.size + 1 ≤ w9.heap.size := (by have h := hgr.size; rwa [World.size_alloc] at h); have hs9 : max w.heap.size g < w9.heap.size := (by omega); have hx9 : Ext w w9 := ext_grown (by repeat (first | exact Ext.refl _ | with_reducible assumption | apply Ext.alloc | apply Ext.drew | apply Ext.drewN | (refine Ext.setRow ?_ (by first | (simp; done) | (simp; omega) | omega) _) | (refine Ext.setCell ?_ (by first | (simp; done) | (simp; omega) | omega) _) | (refine Ext.trans ?_ (by with_reducible assumption)))) hgr (fun k hk => by have := (World.ownsRow.lt OWN.out k hk).1; omega); have OWN7 : RowKit.Hid (w9.ownsRow (w.heap.size + 1) 3 1 v9 1 [.int .i64 p]) := OWN8; clear OWN OWN8 hne hgr; have OWN := OWN7; clear OWN7))
  rw [rounds_succ]
  go_wp2_with (first | (go_at_call 62; (with_reducible refine (PY.out _).mono ?_); rintro rv w1 ⟨rfl, hb⟩; (first | (have OWN9 := Lib.hid (own_ext OWN.out hb); clear OWN; have OWN := OWN9; clear OWN9) | (have OWN9 := Lib.hid (own_ext (own_ext OWN.out (Ext.new _ _)) hb); clear OWN; have OWN := OWN9; clear OWN9)); have ns : max w.heap.size g < w1.heap.size := hb.lt (by first | with_reducible assumption | omega | (simp; done) | (simp; omega)); have n0 : w1.cell? ⟨w.heap.size, 0, none⟩ = some (.int .i64 e) := (hb.cells _ _ (by first | with_reducible assumption | omega | (simp; done) | (simp; omega))).trans (by first | with_reducible assumption | (simp; done) | (simp; with_reducible assumption) | (rw [cell_alloc_before _ _ _ _ (by omega)]; with_reducible assumption) | (simp [go_sem, *]; done)); have n1 : w1.cell? ⟨w.heap.size, 1, none⟩ = some (.int .i64 f) := (hb.cells _ _ (by first | with_reducible assumption | omega | (simp; done) | (simp; omega))).trans (by first | with_reducible assumption | (simp; done) | (simp; with_reducible assumption) | (rw [cell_alloc_before _ _ _ _ (by omega)]; with_reducible assumption) | (simp [go_sem, *]; done)); have n2 : w1.cell? ⟨g, 0, none⟩ = some (.float .f32 x0) := (hb.cells _ _ (by first | with_reducible assumption | omega | (simp; done) | (simp; omega))).trans (by first | with_reducible assumption | (simp; done) | (simp; with_reducible assumption) | (rw [cell_alloc_before _ _ _ _ (by omega)]; with_reducible assumption) | (simp [go_sem, *]; done)); have n3 : w1.cell? ⟨g, 1, none⟩ = some (.float .f32 x1) := (hb.cells _ _ (by first | with_reducible assumption | omega | (simp; done) | (simp; omega))).trans (by first | with_reducible assumption | (simp; done) | (simp; with_reducible assumption) | (rw [cell_alloc_before _ _ _ _ (by omega)]; with_reducible assumption) | (simp [go_sem, *]; done)); (first | (have nx := Ext.trans hx hb; clear hx) | (have nx := Ext.trans (hx.alloc _) hb; clear hx) | (have nx := Ext.trans hx.drew hb; clear hx) | have nx := hb); clear hb; try clear hs; try clear g0; try clear g1; try clear g2; try clear g3; have hx := nx; clear nx; have hs := ns; clear ns; have g0 := n0; clear n0; have g1 := n1; clear n1; have g2 := n2; clear n2; have g3 := n3; clear n3) | (at_builtin; (refine wpList_append_own _ rfl (.tmp 26) (.tmp 28) 31 rfl (w.heap.size + 1) 3 i _ 1 8 Try.underlying31 HI.out HZ.out HSZ.out HBY.out rfl (by decide) v9 1 [.int .i64 p] rfl (own_ext OWN.out (Ext.new _ _)) _ 1 1 [.int .i64 q] rfl rfl (fun j u hj => by cases j with | zero => (simp at hj; subst hj; simp [go_sem, Addr.add]) | succ j => simp at hj) (by simp [Value.oneCell']) (by simp [maxLen]) (by omega) (by simp; omega) ?_); intro v8 w8 OWN8 hgr _; have hne : ∀ k, k < w.heap.size + 1 → some k ≠ Value.ownBlock v9 := fun k hk h => (by have := (World.ownsRow.lt OWN.out _ h.symm).1; omega); have c0 : w8.cell? ⟨w.heap.size, 0, none⟩ = some (.int .i64 e) := hgr.cell ((cell_alloc_before _ _ (w.heap.size) 0 (by omega)).trans (by with_reducible assumption)) (hne (w.heap.size) (by omega)); have c1 : w8.cell? ⟨w.heap.size, 1, none⟩ = some (.int .i64 f) := hgr.cell ((cell_alloc_before _ _ (w.heap.size) 1 (by omega)).trans (by with_reducible assumption)) (hne (w.heap.size) (by omega)); have c2 : w8.cell? ⟨g, 0, none⟩ = some (.float .f32 x0) := hgr.cell ((cell_alloc_before _ _ (g) 0 (by omega)).trans (by with_reducible assumption)) (hne (g) (by omega)); have c3 : w8.cell? ⟨g, 1, none⟩ = some (.float .f32 x1) := hgr.cell ((cell_alloc_before _ _ (g) 1 (by omega)).trans (by with_reducible assumption)) (hne (g) (by omega)); have sz : w1.heap.size + 1 ≤ w8.heap.size := (by have h := hgr.size; rwa [World.size_alloc] at h); have hs9 : max w.heap.size g < w8.heap.size := (by omega); have hx9 : Ext w w8 := ext_grown (by repeat (first | exact Ext.refl _ | with_reducible assumption | apply Ext.alloc | apply Ext.drew | apply Ext.drewN | (refine Ext.setRow ?_ (by first | (simp; done) | (simp; omega) | omega) _) | (refine Ext.setCell ?_ (by first | (simp; done) | (simp; omega) | omega) _) | (refine Ext.trans ?_ (by with_reducible assumption)))) hgr (fun k hk => by have := (World.ownsRow.lt OWN.out k hk).1; omega); have OWN7 : RowKit.Hid (w8.ownsRow (w.heap.size + 1) 3 1 v8 2 [.int .i64 p, .int .i64 q]) := OWN8; clear OWN OWN8 hne hgr; have OWN := OWN7; clear OWN7))
  rw [rounds_succ]
  go_wp2_with fail
  go_ret2
  exact ⟨v8, rfl, OWN.out, (by repeat (first | exact Ext.refl _ | with_reducible assumption | apply Ext.alloc | apply Ext.drew | apply Ext.drewN | (refine Ext.setRow ?_ (by first | (simp; done) | (simp; omega) | omega) _) | (refine Ext.setCell ?_ (by first | (simp; done) | (simp; omega) | omega) _) | (refine Ext.trans ?_ (by with_reducible assumption))))⟩

set_option maxHeartbeats 3200000 in
theorem patternsOf2_na (e f : Int) (x0 x1 g : Nat) (PX : RowKit.Hid (∀ w, Calls Try.prog 62 #[fmt e f, .float .f32 x0] w fun rv w' => rv = .returned (.tuple #[.int .i64 0, .bool false]) ∧ Ext w w')) (w : World) (c0 : w.cell? ⟨g, 0, none⟩ = some (.float .f32 x0)) (c1 : w.cell? ⟨g, 1, none⟩ = some (.float .f32 x1)) (hg : g < w.heap.size) :
    Calls Try.prog 124 #[fmt e f, .slice (some ⟨g, 0, none⟩) 2 2] w fun rv w' => rv = .returned (.tuple #[.slice none 0 0, .bool false]) ∧ Ext w w' := by
  obtain ⟨i, hi, hz, hsz, hby⟩ : ∃ i, Try.prog.info? 3 = some i ∧ i.zero = some (Value.int .i64 0) ∧ i.size = 1 ∧ i.bytes = 8 := by
    cases h : Try.prog.info? 3 with
    | none => exact absurd h (by have : (Try.prog.info? 3).isSome = true := by kernel_rfl
                                 intro h2; rw [h2] at this; cases this)
    | some i =>
      refine ⟨i, rfl, ?_, ?_, ?_⟩
      · have : (Try.prog.info? 3).map (·.zero) = some (some (Value.int .i64 0)) := by kernel_rfl
        rw [h] at this; exact Option.some.inj this
      · have : (Try.prog.info? 3).map (·.size) = some 1 := by kernel_rfl
        rw [h] at this; exact Option.some.inj this
      · have : (Try.prog.info? 3).map (·.bytes) = some 8 := by kernel_rfl
        rw [h] at this; exact Option.some.inj this
  have HI := Lib.hid hi; have HZ := Lib.hid hz; have HSZ := Lib.hid hsz; have HBY := Lib.hid hby; clear hi hz hsz hby
  go_enter Try.func124, Try.ntmps124
  go_wp2_with fail
  have own0 := (World.ownsRow_lit (base := w.heap.size + 1) (e := 3) (size := 1) (w.alloc (.cells #[.int .i64 e, .int .i64 f] 26)) #[] 0 (by simp) (by decide) rfl)
  rw [World.size_alloc] at own0
  have OWN := Lib.hid own0; clear own0
  refine wp_loop_rounds 3 ?_
  rw [rounds_succ]
  go_wp2_with (go_at_call 62; (with_reducible refine (PX.out _).mono ?_); rintro rv w1 ⟨rfl, hb⟩; have ns : max w.heap.size g < w1.heap.size := hb.lt (by first | with_reducible assumption | omega | (simp; done) | (simp; omega)); have n0 : w1.cell? ⟨w.heap.size, 0, none⟩ = some (.int .i64 e) := (hb.cells _ _ (by first | with_reducible assumption | omega | (simp; done) | (simp; omega))).trans (by first | with_reducible assumption | (simp; done) | (simp; with_reducible assumption) | (rw [cell_alloc_before _ _ _ _ (by omega)]; with_reducible assumption) | (simp [go_sem, *]; done)); have n1 : w1.cell? ⟨w.heap.size, 1, none⟩ = some (.int .i64 f) := (hb.cells _ _ (by first | with_reducible assumption | omega | (simp; done) | (simp; omega))).trans (by first | with_reducible assumption | (simp; done) | (simp; with_reducible assumption) | (rw [cell_alloc_before _ _ _ _ (by omega)]; with_reducible assumption) | (simp [go_sem, *]; done)); have n2 : w1.cell? ⟨g, 0, none⟩ = some (.float .f32 x0) := (hb.cells _ _ (by first | with_reducible assumption | omega | (simp; done) | (simp; omega))).trans (by first | with_reducible assumption | (simp; done) | (simp; with_reducible assumption) | (rw [cell_alloc_before _ _ _ _ (by omega)]; with_reducible assumption) | (simp [go_sem, *]; done)); have n3 : w1.cell? ⟨g, 1, none⟩ = some (.float .f32 x1) := (hb.cells _ _ (by first | with_reducible assumption | omega | (simp; done) | (simp; omega))).trans (by first | with_reducible assumption | (simp; done) | (simp; with_reducible assumption) | (rw [cell_alloc_before _ _ _ _ (by omega)]; with_reducible assumption) | (simp [go_sem, *]; done)); (first | (have nx := Ext.trans hx hb; clear hx) | (have nx := Ext.trans (hx.alloc _) hb; clear hx) | (have nx := Ext.trans hx.drew hb; clear hx) | have nx := hb); clear hb; try clear hs; try clear g0; try clear g1; try clear g2; try clear g3; have hx := nx; clear nx; have hs := ns; clear ns; have g0 := n0; clear n0; have g1 := n1; clear n1; have g2 := n2; clear n2; have g3 := n3; clear n3)
  go_ret2
  exact ⟨rfl, (by repeat (first | exact Ext.refl _ | with_reducible assumption | apply Ext.alloc | apply Ext.drew | apply Ext.drewN | (refine Ext.setRow ?_ (by first | (simp; done) | (simp; omega) | omega) _) | (refine Ext.setCell ?_ (by first | (simp; done) | (simp; omega) | omega) _) | (refine Ext.trans ?_ (by with_reducible assumption))))⟩

set_option maxHeartbeats 3200000 in
theorem patternsOf2_nb (e f p : Int) (x0 x1 g : Nat) (PX : RowKit.Hid (∀ w, Calls Try.prog 62 #[fmt e f, .float .f32 x0] w fun rv w' => rv = .returned (.tuple #[.int .i64 p, .bool true]) ∧ Ext w w')) (PY : RowKit.Hid (∀ w, Calls Try.prog 62 #[fmt e f, .float .f32 x1] w fun rv w' => rv = .returned (.tuple #[.int .i64 0, .bool false]) ∧ Ext w w')) (w : World) (c0 : w.cell? ⟨g, 0, none⟩ = some (.float .f32 x0)) (c1 : w.cell? ⟨g, 1, none⟩ = some (.float .f32 x1)) (hg : g < w.heap.size) :
    Calls Try.prog 124 #[fmt e f, .slice (some ⟨g, 0, none⟩) 2 2] w fun rv w' => rv = .returned (.tuple #[.slice none 0 0, .bool false]) ∧ Ext w w' := by
  obtain ⟨i, hi, hz, hsz, hby⟩ : ∃ i, Try.prog.info? 3 = some i ∧ i.zero = some (Value.int .i64 0) ∧ i.size = 1 ∧ i.bytes = 8 := by
    cases h : Try.prog.info? 3 with
    | none => exact absurd h (by have : (Try.prog.info? 3).isSome = true := by kernel_rfl
                                 intro h2; rw [h2] at this; cases this)
    | some i =>
      refine ⟨i, rfl, ?_, ?_, ?_⟩
      · have : (Try.prog.info? 3).map (·.zero) = some (some (Value.int .i64 0)) := by kernel_rfl
        rw [h] at this; exact Option.some.inj this
      · have : (Try.prog.info? 3).map (·.size) = some 1 := by kernel_rfl
        rw [h] at this; exact Option.some.inj this
      · have : (Try.prog.info? 3).map (·.bytes) = some 8 := by kernel_rfl
        rw [h] at this; exact Option.some.inj this
  have HI := Lib.hid hi; have HZ := Lib.hid hz; have HSZ := Lib.hid hsz; have HBY := Lib.hid hby; clear hi hz hsz hby
  go_enter Try.func124, Try.ntmps124
  go_wp2_with fail
  have own0 := (World.ownsRow_lit (base := w.heap.size + 1) (e := 3) (size := 1) (w.alloc (.cells #[.int .i64 e, .int .i64 f] 26)) #[] 0 (by simp) (by decide) rfl)
  rw [World.size_alloc] at own0
  have OWN := Lib.hid own0; clear own0
  refine wp_loop_rounds 3 ?_
  rw [rounds_succ]
  go_wp2_with (first | (go_at_call 62; (with_reducible refine (PX.out _).mono ?_); rintro rv w1 ⟨rfl, hb⟩; (first | (have OWN9 := Lib.hid (own_ext OWN.out hb); clear OWN; have OWN := OWN9; clear OWN9) | (have OWN9 := Lib.hid (own_ext (own_ext OWN.out (Ext.new _ _)) hb); clear OWN; have OWN := OWN9; clear OWN9)); have ns : max w.heap.size g < w1.heap.size := hb.lt (by first | with_reducible assumption | omega | (simp; done) | (simp; omega)); have n0 : w1.cell? ⟨w.heap.size, 0, none⟩ = some (.int .i64 e) := (hb.cells _ _ (by first | with_reducible assumption | omega | (simp; done) | (simp; omega))).trans (by first | with_reducible assumption | (simp; done) | (simp; with_reducible assumption) | (rw [cell_alloc_before _ _ _ _ (by omega)]; with_reducible assumption) | (simp [go_sem, *]; done)); have n1 : w1.cell? ⟨w.heap.size, 1, none⟩ = some (.int .i64 f) := (hb.cells _ _ (by first | with_reducible assumption | omega | (simp; done) | (simp; omega))).trans (by first | with_reducible assumption | (simp; done) | (simp; with_reducible assumption) | (rw [cell_alloc_before _ _ _ _ (by omega)]; with_reducible assumption) | (simp [go_sem, *]; done)); have n2 : w1.cell? ⟨g, 0, none⟩ = some (.float .f32 x0) := (hb.cells _ _ (by first | with_reducible assumption | omega | (simp; done) | (simp; omega))).trans (by first | with_reducible assumption | (simp; done) | (simp; with_reducible assumption) | (rw [cell_alloc_before _ _ _ _ (by omega)]; with_reducible assumption) | (simp [go_sem, *]; done)); have n3 : w1.cell? ⟨g, 1, none⟩ = some (.float .f32 x1) := (hb.cells _ _ (by first | with_reducible assumption | omega | (simp; done) | (simp; omega))).trans (by first | with_reducible assumption | (simp; done) | (simp; with_reducible assumption) | (rw [cell_alloc_before _ _ _ _ (by omega)]; with_reducible assumption) | (simp [go_sem, *]; done)); (first | (have nx := Ext.trans hx hb; clear hx) | (have nx := Ext.trans (hx.alloc _) hb; clear hx) | (have nx := Ext.trans hx.drew hb; clear hx) | have nx := hb); clear hb; try clear hs; try clear g0; try clear g1; try clear g2; try clear g3; have hx := nx; clear nx; have hs := ns; clear ns; have g0 := n0; clear n0; have g1 := n1; clear n1; have g2 := n2; clear n2; have g3 := n3; clear n3) | (at_builtin; (refine wpList_append_own _ rfl (.tmp 26) (.tmp 28) 31 rfl (w.heap.size + 1) 3 i _ 1 8 Try.underlying31 HI.out HZ.out HSZ.out HBY.out rfl (by decide) (.slice (some ⟨w.heap.size + 1, 0, none⟩) 0 0) 0 [] rfl (own_ext OWN.out (Ext.new _ _)) _ 1 1 [.int .i64 p] rfl rfl (fun j u hj => by cases j with | zero => (simp at hj; subst hj; simp [go_sem, Addr.add]) | succ j => simp at hj) (by simp [Value.oneCell']) (by simp [maxLen]) (by omega) (by simp; omega) ?_); intro v9 w9 OWN8 hgr _; have hne : ∀ k, k < w.heap.size + 1 → some k ≠ Value.ownBlock (.slice (some ⟨w.heap.size + 1, 0, none⟩) 0 0) := fun k hk h => (by have := (World.ownsRow.lt OWN.out _ h.symm).1; omega); have c0 : w9.cell? ⟨w.heap.size, 0, none⟩ = some (.int .i64 e) := hgr.cell ((cell_alloc_before _ _ (w.heap.size) 0 (by omega)).trans (by with_reducible assumption)) (hne (w.heap.size) (by omega)); have c1 : w9.cell? ⟨w.heap.size, 1, none⟩ = some (.int .i64 f) := hgr.cell ((cell_alloc_before _ _ (w.heap.size) 1 (by omega)).trans (by with_reducible assumption)) (hne (w.heap.size) (by omega)); have c2 : w9.cell? ⟨g, 0, none⟩ = some (.float .f32 x0) := hgr.cell ((cell_alloc_before _ _ (g) 0 (by omega)).trans (by with_reducible assumption)) (hne (g) (by omega)); have c3 : w9.cell? ⟨g, 1, none⟩ = some (.float .f32 x1) := hgr.cell ((cell_alloc_before _ _ (g) 1 (by omega)).trans (by with_reducible assumption)) (hne (g) (by omega)); have sz : w1.heap.size + 1 ≤ w9.heap.size := (by have h := hgr.size; rwa [World.size_alloc] at h); have hs9 : max w.heap.size g < w9.heap.size := (by omega); have hx9 : Ext w w9 := ext_grown (by repeat (first | exact Ext.refl _ | with_reducible assumption | apply Ext.alloc | apply Ext.drew | apply Ext.drewN | (refine Ext.setRow ?_ (by first | (simp; done) | (simp; omega) | omega) _) | (refine Ext.setCell ?_ (by first | (simp; done) | (simp; omega) | omega) _) | (refine Ext.trans ?_ (by with_reducible assumption)))) hgr (fun k hk => by have := (World.ownsRow.lt OWN.out k hk).1; omega); have OWN7 : RowKit.Hid (w9.ownsRow (w.heap.size + 1) 3 1 v9 1 [.int .i64 p]) := OWN8; clear OWN OWN8 hne hgr; have OWN := OWN7; clear OWN7))
  rw [rounds_succ]
  go_wp2_with (go_at_call 62; (with_reducible refine (PY.out _).mono ?_); rintro rv w1 ⟨rfl, hb⟩; have ns : max w.heap.size g < w1.heap.size := hb.lt (by first | with_reducible assumption | omega | (simp; done) | (simp; omega)); have n0 : w1.cell? ⟨w.heap.size, 0, none⟩ = some (.int .i64 e) := (hb.cells _ _ (by first | with_reducible assumption | omega | (simp; done) | (simp; omega))).trans (by first | with_reducible assumption | (simp; done) | (simp; with_reducible assumption) | (rw [cell_alloc_before _ _ _ _ (by omega)]; with_reducible assumption) | (simp [go_sem, *]; done)); have n1 : w1.cell? ⟨w.heap.size, 1, none⟩ = some (.int .i64 f) := (hb.cells _ _ (by first | with_reducible assumption | omega | (simp; done) | (simp; omega))).trans (by first | with_reducible assumption | (simp; done) | (simp; with_reducible assumption) | (rw [cell_alloc_before _ _ _ _ (by omega)]; with_reducible assumption) | (simp [go_sem, *]; done)); have n2 : w1.cell? ⟨g, 0, none⟩ = some (.float .f32 x0) := (hb.cells _ _ (by first | with_reducible assumption | omega | (simp; done) | (simp; omega))).trans (by first | with_reducible assumption | (simp; done) | (simp; with_reducible assumption) | (rw [cell_alloc_before _ _ _ _ (by omega)]; with_reducible assumption) | (simp [go_sem, *]; done)); have n3 : w1.cell? ⟨g, 1, none⟩ = some (.float .f32 x1) := (hb.cells _ _ (by first | with_reducible assumption | omega | (simp; done) | (simp; omega))).trans (by first | with_reducible assumption | (simp; done) | (simp; with_reducible assumption) | (rw [cell_alloc_before _ _ _ _ (by omega)]; with_reducible assumption) | (simp [go_sem, *]; done)); (first | (have nx := Ext.trans hx hb; clear hx) | (have nx := Ext.trans (hx.alloc _) hb; clear hx) | (have nx := Ext.trans hx.drew hb; clear hx) | have nx := hb); clear hb; try clear hs; try clear g0; try clear g1; try clear g2; try clear g3; have hx := nx; clear nx; have hs := ns; clear ns; have g0 := n0; clear n0; have g1 := n1; clear n1; have g2 := n2; clear n2; have g3 := n3; clear n3)
  go_ret2
  exact ⟨rfl, (by repeat (first | exact Ext.refl _ | with_reducible assumption | apply Ext.alloc | apply Ext.drew | apply Ext.drewN | (refine Ext.setRow ?_ (by first | (simp; done) | (simp; omega) | omega) _) | (refine Ext.setCell ?_ (by first | (simp; done) | (simp; omega) | omega) _) | (refine Ext.trans ?_ (by with_reducible assumption))))⟩

theorem patternsOf2 (e f p q : Int) (x0 x1 g : Nat) (PX : RowKit.Hid (∀ w, Calls Try.prog 62 #[fmt e f, .float .f32 x0] w fun rv w' => rv = .returned (.tuple #[.int .i64 p, .bool true]) ∧ Ext w w')) (PY : RowKit.Hid (∀ w, Calls Try.prog 62 #[fmt e f, .float .f32 x1] w fun rv w' => rv = .returned (.tuple #[.int .i64 q, .bool true]) ∧ Ext w w')) (w : World) (c0 : w.cell? ⟨g, 0, none⟩ = some (.float .f32 x0)) (c1 : w.cell? ⟨g, 1, none⟩ = some (.float .f32 x1)) (hg : g < w.heap.size) :
    Calls Try.prog 124 #[fmt e f, .slice (some ⟨g, 0, none⟩) 2 2] w fun rv w' => ∃ gl cap, rv = .returned (.tuple #[.slice (some ⟨gl, 0, none⟩) 2 cap, .bool true]) ∧ w.heap.size ≤ gl ∧ gl < w'.heap.size ∧ w'.cell? ⟨gl, 0, none⟩ = some (.int .i64 p) ∧ w'.cell? ⟨gl, 1, none⟩ = some (.int .i64 q) ∧ Ext w w' := by
  refine (patternsOf2_ e f p q x0 x1 g PX PY w c0 c1 hg).mono ?_
  rintro rv w' ⟨v, rfl, how, hb⟩
  obtain ⟨gl, cap, rfl, hg1, hg2⟩ := how.form (by omega)
  have c0 := how.cellAt 0 (by omega)
  have c1 := how.cellAt 1 (by omega)
  simp only [List.getElem?_cons_zero, List.getElem?_cons_succ] at c0 c1
  exact ⟨gl, cap, rfl, by omega, by omega, c0, c1, hb⟩

theorem patternsOfTwo_yes (e f p q : Int) (x0 x1 : Nat) (PX : RowKit.Hid (∀ w, Calls Try.prog 62 #[fmt e f, .float .f32 x0] w fun rv w' => rv = .returned (.tuple #[.int .i64 p, .bool true]) ∧ Ext w w')) (PY : RowKit.Hid (∀ w, Calls Try.prog 62 #[fmt e f, .float .f32 x1] w fun rv w' => rv = .returned (.tuple #[.int .i64 q, .bool true]) ∧ Ext w w')) (w : World) : Calls Try.prog 66 #[fmt e f, .float .f32 x0, .float .f32 x1] w fun rv w' => rv = .returned (.tuple #[.int .i64 p, .int .i64 q, .bool true]) ∧ Ext w w' := by
  go_enter Try.func66, Try.ntmps66
  go_wp2_with (go_at_call 124; (with_reducible refine (patternsOf2 e f p q x0 x1 (w.heap.size + 1) PX PY _ (by first | with_reducible assumption | (simp; done) | (simp [go_sem]; done) | (simp [go_sem, *]; done)) (by first | with_reducible assumption | (simp; done) | (simp [go_sem]; done) | (simp [go_sem, *]; done)) (by simp; try omega)).mono ?_); rintro rv w1 ⟨gl, cap, rfl, q1, q2, c0, c1, hb⟩; have c0 := c0; have c1 := c1; have hx : Ext w w1 := Ext.trans (by repeat (first | exact Ext.refl _ | with_reducible assumption | apply Ext.alloc | apply Ext.drew | apply Ext.drewN | (refine Ext.setRow ?_ (by first | (simp; done) | (simp; omega) | omega) _) | (refine Ext.setCell ?_ (by first | (simp; done) | (simp; omega) | omega) _) | (refine Ext.trans ?_ (by with_reducible assumption)))) hb; clear hb)
  try go_region
  try go_wp2_with fail
  all_goals go_ret3
  all_goals exact ⟨rfl, (by repeat (first | exact Ext.refl _ | with_reducible assumption | apply Ext.alloc | apply Ext.drew | apply Ext.drewN | (refine Ext.setRow ?_ (by first | (simp; done) | (simp; omega) | omega) _) | (refine Ext.setCell ?_ (by first | (simp; done) | (simp; omega) | omega) _) | (refine Ext.trans ?_ (by with_reducible assumption))))⟩

theorem patternsOfTwo_na (e f : Int) (x0 x1 : Nat) (PX : RowKit.Hid (∀ w, Calls Try.prog 62 #[fmt e f, .float .f32 x0] w fun rv w' => rv = .returned (.tuple #[.int .i64 0, .bool false]) ∧ Ext w w')) (w : World) : Calls Try.prog 66 #[fmt e f, .float .f32 x0, .float .f32 x1] w fun rv w' => rv = .returned (.tuple #[.int .i64 0, .int .i64 0, .bool false]) ∧ Ext w w' := by
  go_enter Try.func66, Try.ntmps66
  go_wp2_with (go_at_call 124; (with_reducible refine (patternsOf2_na e f x0 x1 (w.heap.size + 1) PX _ (by first | with_reducible assumption | (simp; done) | (simp [go_sem]; done) | (simp [go_sem, *]; done)) (by first | with_reducible assumption | (simp; done) | (simp [go_sem]; done) | (simp [go_sem, *]; done)) (by simp; try omega)).mono ?_); rintro rv w1 ⟨rfl, hb⟩; have hx : Ext w w1 := Ext.trans (by repeat (first | exact Ext.refl _ | with_reducible assumption | apply Ext.alloc | apply Ext.drew | apply Ext.drewN | (refine Ext.setRow ?_ (by first | (simp; done) | (simp; omega) | omega) _) | (refine Ext.setCell ?_ (by first | (simp; done) | (simp; omega) | omega) _) | (refine Ext.trans ?_ (by with_reducible assumption)))) hb; clear hb)
  all_goals go_ret3
  all_goals exact ⟨rfl, (by repeat (first | exact Ext.refl _ | with_reducible assumption | apply Ext.alloc | apply Ext.drew | apply Ext.drewN | (refine Ext.setRow ?_ (by first | (simp; done) | (simp; omega) | omega) _) | (refine Ext.setCell ?_ (by first | (simp; done) | (simp; omega) | omega) _) | (refine Ext.trans ?_ (by with_reducible assumption))))⟩

theorem patternsOfTwo_nb (e f p : Int) (x0 x1 : Nat) (PX : RowKit.Hid (∀ w, Calls Try.prog 62 #[fmt e f, .float .f32 x0] w fun rv w' => rv = .returned (.tuple #[.int .i64 p, .bool true]) ∧ Ext w w')) (PY : RowKit.Hid (∀ w, Calls Try.prog 62 #[fmt e f, .float .f32 x1] w fun rv w' => rv = .returned (.tuple #[.int .i64 0, .bool false]) ∧ Ext w w')) (w : World) : Calls Try.prog 66 #[fmt e f, .float .f32 x0, .float .f32 x1] w fun rv w' => rv = .returned (.tuple #[.int .i64 0, .int .i64 0, .bool false]) ∧ Ext w w' := by
  go_enter Try.func66, Try.ntmps66
  go_wp2_with (go_at_call 124; (with_reducible refine (patternsOf2_nb e f p x0 x1 (w.heap.size + 1) PX PY _ (by first | with_reducible assumption | (simp; done) | (simp [go_sem]; done) | (simp [go_sem, *]; done)) (by first | with_reducible assumption | (simp; done) | (simp [go_sem]; done) | (simp [go_sem, *]; done)) (by simp; try omega)).mono ?_); rintro rv w1 ⟨rfl, hb⟩; have hx : Ext w w1 := Ext.trans (by repeat (first | exact Ext.refl _ | with_reducible assumption | apply Ext.alloc | apply Ext.drew | apply Ext.drewN | (refine Ext.setRow ?_ (by first | (simp; done) | (simp; omega) | omega) _) | (refine Ext.setCell ?_ (by first | (simp; done) | (simp; omega) | omega) _) | (refine Ext.trans ?_ (by with_reducible assumption)))) hb; clear hb)
  all_goals go_ret3
  all_goals exact ⟨rfl, (by repeat (first | exact Ext.refl _ | with_reducible assumption | apply Ext.alloc | apply Ext.drew | apply Ext.drewN | (refine Ext.setRow ?_ (by first | (simp; done) | (simp; omega) | omega) _) | (refine Ext.setCell ?_ (by first | (simp; done) | (simp; omega) | omega) _) | (refine Ext.trans ?_ (by with_reducible assumption))))⟩
end Go.Proofs.Ytcbkhlaiefiieac

namespace Go.Proofs.Ytcbkhlaiefiieac
open Go Go.RowKit
set_option linter.unusedSimpArgs false
set_option linter.unusedVariables false
set_option maxRecDepth 100000

/-- The value of a near sum, in units. -/
noncomputable def nsU (e f u : Int) : Int := if u < 0 then -mgV f (nsP e f u) else mgV f (nsP e f u)

/-- The error of a near sum, in units. -/
noncomputable def erU (e f u : Int) : Int := u - nsU e f u

noncomputable def erR (e f u : Int) : Int := if nsB e f u = true then nsV e f (erU e f u) else 0

theorem nsU_abs {e f u : Int} (hg : goodB e f = true) (hB : nsB e f u = true) : ((nsU e f u).natAbs : Int) = mgV f (nsP e f u) ∧ decide (nsU e f u < 0) = decide (u < 0) := by
  obtain ⟨s0, s1⟩ := nsP_bd (u := u) hg
  have hs : nsP e f u ≤ grV e f := of_decide_eq_true hB
  have hb := mg_bd hg s0 hs
  have hf := (good_iff.1 hg).2.2.1
  unfold nsU
  by_cases h : u < 0
  · rw [if_pos h]
    have z : nsP e f u ≠ 0 := fun z => by have := (nsP_zero hg).1 z; omega
    have := mg_mono f 1 (nsP e f u) hf (by decide) (by omega)
    have c2 := (pw_facts (good_iff.1 hg).1 (good_iff.1 hg).2.1 (good_iff.1 hg).2.2.1 (good_iff.1 hg).2.2.2).2.2.1.1
    rw [mg_small f 1 (by decide) (by omega)] at this
    exact ⟨by omega, by rw [decide_eq_decide]; omega⟩
  · rw [if_neg h]
    exact ⟨by omega, by rw [decide_eq_decide]; omega⟩

theorem ns_units {e f u : Int} (hg : goodB e f = true) (hB : nsB e f u = true) : unitsV e f (nsV e f u) = nsU e f u := by
  obtain ⟨s0, s1⟩ := nsP_bd (u := u) hg
  obtain ⟨q1, q2, q3, q4⟩ := s_parts hg s0 s1
  have pp := pw_pos (e + f)
  obtain ⟨np, _⟩ := ns_pat (u := u) hg
  have lt : nsP e f u < pw (e + f) := by
    have := Int.emod_lt_of_pos (nsP e f u) (show 0 < pw (e + f) by omega)
    omega
  unfold unitsV
  rw [mag_mod np]
  unfold nsU nsV exV
  by_cases z : nsP e f u = 0
  · rw [if_pos z, z]
    simp [mg_zero]
  · rw [if_neg z]
    by_cases h : u < 0
    · rw [if_pos h, if_pos h, Int.add_comm, Int.add_emod_right, q3]
      have e1 : (nsP e f u + pw (e + f)) / pw (e + f) = 1 := by
        rw [Int.add_ediv_of_dvd_right (Int.dvd_refl _), q2, Int.ediv_self (by omega)]; rfl
      rw [e1]; rfl
    · rw [if_neg h, if_neg h, q2, q3]; rfl

theorem nr_cw {e f u : Int} (hg : goodB e f = true) (hB : nsB e f u = true) : nrW e f (decide (u < 0)) (nsP e f u) = cw (nsU e f u) := by
  obtain ⟨h1, h2⟩ := nsU_abs hg hB
  rw [cw_mg h1, h2]
  unfold nrW
  rw [if_pos (of_decide_eq_true hB)]

theorem ok_few {u : Int} {c k : Nat} (h : u.natAbs = c * 2 ^ k) (hc : c < 16777216) (hk : k ≤ 30) : Ok Ieee.single (u.natAbs * 2 ^ 149) := by
  rw [h, Nat.mul_assoc, ← Nat.pow_add]
  exact ok32 (by omega) (by omega)

theorem two_err {e f a b : Int} (ha : finB e f a = true) (hb2 : finB e f b = true) (hB : nsB e f (unitsV e f a + unitsV e f b) = true) (h : (unitsV e f b).natAbs ≤ (unitsV e f a).natAbs) :
    Ok Ieee.single ((unitsV e f a - nsU e f (unitsV e f a + unitsV e f b)).natAbs * 2 ^ 149) ∧ nsB e f (erU e f (unitsV e f a + unitsV e f b)) = true ∧ nsU e f (erU e f (unitsV e f a + unitsV e f b)) = erU e f (unitsV e f a + unitsV e f b) := by
  obtain ⟨hg, a0, a1, a2⟩ := fin_size ha
  obtain ⟨_, b0, b1, b2⟩ := fin_size hb2
  obtain ⟨⟨c, k, k1, k2, k3⟩, r, r0, r1, r2⟩ := two_sum hg a0 a1 b0 b1 a2 b2 h (nsP_ex hg) (of_decide_eq_true hB) rfl
  have e1 := nsP_val hg r0 r1 r2
  refine ⟨ok_few k1 k2 k3, ?_, ?_⟩
  · unfold nsB
    rw [show nsP e f (erU e f (unitsV e f a + unitsV e f b)) = r from e1]
    exact decide_eq_true r1
  · unfold nsU
    rw [show nsP e f (erU e f (unitsV e f a + unitsV e f b)) = r from e1, ← r2]
    show (if unitsV e f a + unitsV e f b - nsU e f (unitsV e f a + unitsV e f b) < 0 then _ else _) = unitsV e f a + unitsV e f b - nsU e f (unitsV e f a + unitsV e f b)
    unfold nsU
    split <;> omega

theorem sub_cw {a b : Int} (ha : Ok Ieee.single (a.natAbs * 2 ^ 149)) (hb : Ok Ieee.single (b.natAbs * 2 ^ 149)) : floatBits .sub .f32 (cw a) (cw b) = some (cw (a - b)) := by
  have h := sub_sw (s := decide (a < 0)) (t := decide (b < 0)) ha hb
  have hn : ∀ (t : Bool) (v : Nat), sv (!t) v = -sv t v := by
    intro t v
    cases t <;> simp [sv]
  rw [hn, sv_cw, sv_cw, ← Int.neg_mul, ← Int.add_mul, show a + -b = a - b by omega] at h
  have hp := pw_pos 149
  have p149 : pw 149 = ((2 ^ 149 : Nat) : Int) := (pw_cast 149).symm
  show Ieee.single.sub _ _ = _
  unfold cw
  rw [h]
  have e1 : ((a - b) * pw 149).natAbs = (a - b).natAbs * 2 ^ 149 := by
    rw [Int.natAbs_mul, p149, Int.natAbs_natCast]
  rw [e1]
  congr 2
  by_cases z : a - b = 0
  · rw [z, Int.zero_mul, if_pos rfl]
    have : a = b := by omega
    subst this
    cases decide (a < 0) <;> rfl
  · have z2 : (a - b) * pw 149 ≠ 0 := fun h => (Int.mul_eq_zero.1 h).elim z (by omega)
    rw [if_neg z2, decide_eq_decide]
    constructor
    · intro h
      apply Int.lt_of_not_ge
      intro h3
      have := Int.mul_nonneg h3 (show (0 : Int) ≤ pw 149 by omega)
      omega
    · intro h; exact Int.mul_neg_of_neg_of_pos h (by omega)

theorem read_inf (s : Bool) : Ieee.single.read (Ieee.single.word s Ieee.single.infRung) = .infinity s := by cases s <;> decide

theorem sub_inf {a : Int} (t : Bool) (ha : Ok Ieee.single (a.natAbs * 2 ^ 149)) : floatBits .sub .f32 (cw a) (Ieee.single.word t Ieee.single.infRung) = some (Ieee.single.word (!t) Ieee.single.infRung) := by
  obtain ⟨m, k, h1, _⟩ := read_sw (decide (a < 0)) ha
  show Ieee.single.sub _ _ = _
  unfold Ieee.Format.sub
  have h2 : Ieee.single.read (cw a) = .number (decide (a < 0)) m (Ieee.single.leastPlace + k) := h1
  rw [h2, read_inf]
  rfl

theorem add_inf {a : Int} (t : Bool) (ha : Ok Ieee.single (a.natAbs * 2 ^ 149)) : floatBits .add .f32 (Ieee.single.word t Ieee.single.infRung) (cw a) = some (Ieee.single.word t Ieee.single.infRung) := by
  obtain ⟨m, k, h1, _⟩ := read_sw (decide (a < 0)) ha
  show Ieee.single.add _ _ = _
  unfold Ieee.Format.add
  have h2 : Ieee.single.read (cw a) = .number (decide (a < 0)) m (Ieee.single.leastPlace + k) := h1
  rw [h2, read_inf]
  rfl

/-- The error as the program has it. -/
noncomputable def neW (e f u : Int) : Nat := if nsB e f u = true then cw (erU e f u) else Ieee.single.word (!(decide (u < 0))) Ieee.single.infRung

theorem err_bits {e f a b : Int} (ha : finB e f a = true) (hb2 : finB e f b = true) (h : (unitsV e f b).natAbs ≤ (unitsV e f a).natAbs) :
    ∃ d, floatBits .sub .f32 (cw (unitsV e f a)) (nrW e f (decide (unitsV e f a + unitsV e f b < 0)) (nsP e f (unitsV e f a + unitsV e f b))) = some d ∧ floatBits .add .f32 d (cw (unitsV e f b)) = some (neW e f (unitsV e f a + unitsV e f b)) := by
  obtain ⟨hg, _⟩ := fin_size ha
  cases hB : nsB e f (unitsV e f a + unitsV e f b)
  · have hn : ¬ nsP e f (unitsV e f a + unitsV e f b) ≤ grV e f := of_decide_eq_false hB
    have e1 : nrW e f (decide (unitsV e f a + unitsV e f b < 0)) (nsP e f (unitsV e f a + unitsV e f b)) = Ieee.single.word (decide (unitsV e f a + unitsV e f b < 0)) Ieee.single.infRung := if_neg hn
    have e2 : neW e f (unitsV e f a + unitsV e f b) = Ieee.single.word (!(decide (unitsV e f a + unitsV e f b < 0))) Ieee.single.infRung := by unfold neW; rw [hB]; rfl
    rw [e1, e2]
    exact ⟨_, sub_inf _ (ok_units ha), add_inf _ (ok_units hb2)⟩
  · obtain ⟨o1, o2, o3⟩ := two_err ha hb2 hB h
    have e2 : neW e f (unitsV e f a + unitsV e f b) = cw (erU e f (unitsV e f a + unitsV e f b)) := if_pos hB
    obtain ⟨n1, n2⟩ := nsU_abs hg hB
    have okS := ok_abs (mgN_ok hg (nsP_bd hg).1 (of_decide_eq_true hB)).1 n1
    rw [nr_cw hg hB, e2]
    refine ⟨_, sub_cw (ok_units ha) okS, ?_⟩
    rw [add_cw o1 (ok_units hb2)]
    congr 2
    unfold erU
    omega

set_option maxHeartbeats 3200000 in
theorem nwe_ge (e f : Int) (x0 x1 z0 z1 r d e2 : Nat) (S0 : RowKit.Hid (∀ w, Calls Try.prog 69 #[.float .f32 x0] w fun rv w' => rv = .returned (.float .f32 z0) ∧ Ext w w')) (S1 : RowKit.Hid (∀ w, Calls Try.prog 69 #[.float .f32 x1] w fun rv w' => rv = .returned (.float .f32 z1) ∧ Ext w w')) (o : FloatKind.f32.format.order z0 z1 = some .gt ∨ FloatKind.f32.format.order z0 z1 = some .eq)
    (HN : RowKit.Hid (∀ (gl cap : Nat) (w : World) (c0 : w.cell? ⟨gl, 0, none⟩ = some (.float .f32 x0)) (c1 : w.cell? ⟨gl, 1, none⟩ = some (.float .f32 x1)) (hgl : gl < w.heap.size), Calls Try.prog 63 #[fmt e f, .slice (some ⟨gl, 0, none⟩) 2 cap] w fun rv w' => rv = .returned (.float .f32 r) ∧ Ext w w'))
    (h1 : floatBits .sub .f32 x0 r = some d) (h2 : floatBits .add .f32 d x1 = some e2) (w : World) : Calls Try.prog 65 #[fmt e f, .float .f32 x0, .float .f32 x1] w fun rv w' => rv = .returned (.tuple #[.float .f32 r, .float .f32 e2]) ∧ Ext w w' := by
  have A1 : ∀ (t : TypeId) (w : World), (binOp .sub t (.float .f32 x0) (.float .f32 r)).run Try.prog w = .ok (.float .f32 d) w := fun t w => run_float_arith w .sub t .f32 _ _ _ h1
  have A2 : ∀ (t : TypeId) (w : World), (binOp .add t (.float .f32 d) (.float .f32 x1)).run Try.prog w = .ok (.float .f32 e2) w := fun t w => run_float_arith w .add t .f32 _ _ _ h2
  clear h1 h2
  rcases o with o | o
  · go_enter Try.func65, Try.ntmps65
    go_wp2_with fail
    try (go_region_held3 (fun w' => w'.cell? ⟨w.heap.size, 0, none⟩ = some (.int .i64 e) ∧ w'.cell? ⟨w.heap.size, 1, none⟩ = some (.int .i64 f) ∧ w.heap.size < w'.heap.size) ((refine ⟨?_, ?_, ?_⟩ <;> first | with_reducible assumption | ((rw [cell_setRow_far _ _ _ _ _ (by omega)]); with_reducible assumption) | ((rw [setRow_size]); with_reducible assumption) | ((repeat rw [World.cell?_setCell_far _ _ _ _ (by simp)]); with_reducible assumption) | (simp; done) | (simp [World.setCell]; first | done | omega) | (simp [go_sem, World.cell?_alloc_past, World.cell?_setCell_far, *]; done))) ((first | (go_at_call 69; (with_reducible refine (S0.out _).mono ?_); rintro rv w1 ⟨rfl, hb⟩; have ns : w.heap.size < w1.heap.size := hb.lt (by first | with_reducible assumption | omega | (simp; done) | (simp; omega)); have n0 : w1.cell? ⟨w.heap.size, 0, none⟩ = some (.int .i64 e) := (hb.cells _ _ (by first | with_reducible assumption | omega | (simp; done) | (simp; omega))).trans (by first | with_reducible assumption | (simp; done) | (simp; with_reducible assumption) | (rw [cell_alloc_before _ _ _ _ (by omega)]; with_reducible assumption) | (simp [go_sem, *]; done)); have n1 : w1.cell? ⟨w.heap.size, 1, none⟩ = some (.int .i64 f) := (hb.cells _ _ (by first | with_reducible assumption | omega | (simp; done) | (simp; omega))).trans (by first | with_reducible assumption | (simp; done) | (simp; with_reducible assumption) | (rw [cell_alloc_before _ _ _ _ (by omega)]; with_reducible assumption) | (simp [go_sem, *]; done)); (first | (have nx := Ext.trans hx hb; clear hx) | (have nx := Ext.trans (hx.alloc _) hb; clear hx) | (have nx := Ext.trans hx.drew hb; clear hx) | have nx := hb); clear hb; try clear hs; try clear g0; try clear g1; have hx := nx; clear nx; have hs := ns; clear ns; have g0 := n0; clear n0; have g1 := n1; clear n1) | (go_at_call 69; (with_reducible refine (S1.out _).mono ?_); rintro rv w1 ⟨rfl, hb⟩; have ns : w.heap.size < w1.heap.size := hb.lt (by first | with_reducible assumption | omega | (simp; done) | (simp; omega)); have n0 : w1.cell? ⟨w.heap.size, 0, none⟩ = some (.int .i64 e) := (hb.cells _ _ (by first | with_reducible assumption | omega | (simp; done) | (simp; omega))).trans (by first | with_reducible assumption | (simp; done) | (simp; with_reducible assumption) | (rw [cell_alloc_before _ _ _ _ (by omega)]; with_reducible assumption) | (simp [go_sem, *]; done)); have n1 : w1.cell? ⟨w.heap.size, 1, none⟩ = some (.int .i64 f) := (hb.cells _ _ (by first | with_reducible assumption | omega | (simp; done) | (simp; omega))).trans (by first | with_reducible assumption | (simp; done) | (simp; with_reducible assumption) | (rw [cell_alloc_before _ _ _ _ (by omega)]; with_reducible assumption) | (simp [go_sem, *]; done)); (first | (have nx := Ext.trans hx hb; clear hx) | (have nx := Ext.trans (hx.alloc _) hb; clear hx) | (have nx := Ext.trans hx.drew hb; clear hx) | have nx := hb); clear hb; try clear hs; try clear g0; try clear g1; have hx := nx; clear nx; have hs := ns; clear ns; have g0 := n0; clear n0; have g1 := n1; clear n1))))
    go_wp2_with (first | (go_at_call 69; (with_reducible refine (S0.out _).mono ?_); rintro rv w1 ⟨rfl, hb⟩; have ns : w.heap.size < w1.heap.size := hb.lt (by first | with_reducible assumption | omega | (simp; done) | (simp; omega)); have n0 : w1.cell? ⟨w.heap.size, 0, none⟩ = some (.int .i64 e) := (hb.cells _ _ (by first | with_reducible assumption | omega | (simp; done) | (simp; omega))).trans (by first | with_reducible assumption | (simp; done) | (simp; with_reducible assumption) | (rw [cell_alloc_before _ _ _ _ (by omega)]; with_reducible assumption) | (simp [go_sem, *]; done)); have n1 : w1.cell? ⟨w.heap.size, 1, none⟩ = some (.int .i64 f) := (hb.cells _ _ (by first | with_reducible assumption | omega | (simp; done) | (simp; omega))).trans (by first | with_reducible assumption | (simp; done) | (simp; with_reducible assumption) | (rw [cell_alloc_before _ _ _ _ (by omega)]; with_reducible assumption) | (simp [go_sem, *]; done)); (first | (have nx := Ext.trans hx hb; clear hx) | (have nx := Ext.trans (hx.alloc _) hb; clear hx) | (have nx := Ext.trans hx.drew hb; clear hx) | have nx := hb); clear hb; try clear hs; try clear g0; try clear g1; have hx := nx; clear nx; have hs := ns; clear ns; have g0 := n0; clear n0; have g1 := n1; clear n1) | (go_at_call 69; (with_reducible refine (S1.out _).mono ?_); rintro rv w1 ⟨rfl, hb⟩; have ns : w.heap.size < w1.heap.size := hb.lt (by first | with_reducible assumption | omega | (simp; done) | (simp; omega)); have n0 : w1.cell? ⟨w.heap.size, 0, none⟩ = some (.int .i64 e) := (hb.cells _ _ (by first | with_reducible assumption | omega | (simp; done) | (simp; omega))).trans (by first | with_reducible assumption | (simp; done) | (simp; with_reducible assumption) | (rw [cell_alloc_before _ _ _ _ (by omega)]; with_reducible assumption) | (simp [go_sem, *]; done)); have n1 : w1.cell? ⟨w.heap.size, 1, none⟩ = some (.int .i64 f) := (hb.cells _ _ (by first | with_reducible assumption | omega | (simp; done) | (simp; omega))).trans (by first | with_reducible assumption | (simp; done) | (simp; with_reducible assumption) | (rw [cell_alloc_before _ _ _ _ (by omega)]; with_reducible assumption) | (simp [go_sem, *]; done)); (first | (have nx := Ext.trans hx hb; clear hx) | (have nx := Ext.trans (hx.alloc _) hb; clear hx) | (have nx := Ext.trans hx.drew hb; clear hx) | have nx := hb); clear hb; try clear hs; try clear g0; try clear g1; have hx := nx; clear nx; have hs := ns; clear ns; have g0 := n0; clear n0; have g1 := n1; clear n1) | (go_at_call 63; refine (HN.out (w1.heap.size) _ _ (by first | with_reducible assumption | (simp; done) | (simp [go_sem]; done) | (simp [go_sem, *]; done)) (by first | with_reducible assumption | (simp; done) | (simp [go_sem]; done) | (simp [go_sem, *]; done)) (by simp; try omega)).mono ?_; rintro rv w1 ⟨rfl, hb⟩; have ns : w.heap.size < w1.heap.size := hb.lt (by first | with_reducible assumption | omega | (simp; done) | (simp; omega)); have n0 : w1.cell? ⟨w.heap.size, 0, none⟩ = some (.int .i64 e) := (hb.cells _ _ (by first | with_reducible assumption | omega | (simp; done) | (simp; omega))).trans (by first | with_reducible assumption | (simp; done) | (simp; with_reducible assumption) | (rw [cell_alloc_before _ _ _ _ (by omega)]; with_reducible assumption) | (simp [go_sem, *]; done)); have n1 : w1.cell? ⟨w.heap.size, 1, none⟩ = some (.int .i64 f) := (hb.cells _ _ (by first | with_reducible assumption | omega | (simp; done) | (simp; omega))).trans (by first | with_reducible assumption | (simp; done) | (simp; with_reducible assumption) | (rw [cell_alloc_before _ _ _ _ (by omega)]; with_reducible assumption) | (simp [go_sem, *]; done)); (first | (have nx := Ext.trans hx hb; clear hx) | (have nx := Ext.trans (hx.alloc _) hb; clear hx) | (have nx := Ext.trans hx.drew hb; clear hx) | have nx := hb); clear hb; try clear hs; try clear g0; try clear g1; have hx := nx; clear nx; have hs := ns; clear ns; have g0 := n0; clear n0; have g1 := n1; clear n1))
    try (go_region_held3 (fun w' => w'.cell? ⟨w.heap.size, 0, none⟩ = some (.int .i64 e) ∧ w'.cell? ⟨w.heap.size, 1, none⟩ = some (.int .i64 f) ∧ w.heap.size < w'.heap.size) ((refine ⟨?_, ?_, ?_⟩ <;> first | with_reducible assumption | ((rw [cell_setRow_far _ _ _ _ _ (by omega)]); with_reducible assumption) | ((rw [setRow_size]); with_reducible assumption) | ((repeat rw [World.cell?_setCell_far _ _ _ _ (by simp)]); with_reducible assumption) | (simp; done) | (simp [World.setCell]; first | done | omega) | (simp [go_sem, World.cell?_alloc_past, World.cell?_setCell_far, *]; done))) ((first | (go_at_call 63; refine (HN.out _ _ _ (by first | with_reducible assumption | (simp; done) | (simp [go_sem]; done) | (simp [go_sem, *]; done)) (by first | with_reducible assumption | (simp; done) | (simp [go_sem]; done) | (simp [go_sem, *]; done)) (by simp; try omega)).mono ?_; rintro rv w1 ⟨rfl, hb⟩; have ns : w.heap.size < w1.heap.size := hb.lt (by first | with_reducible assumption | omega | (simp; done) | (simp; omega)); have n0 : w1.cell? ⟨w.heap.size, 0, none⟩ = some (.int .i64 e) := (hb.cells _ _ (by first | with_reducible assumption | omega | (simp; done) | (simp; omega))).trans (by first | with_reducible assumption | (simp; done) | (simp; with_reducible assumption) | (rw [cell_alloc_before _ _ _ _ (by omega)]; with_reducible assumption) | (simp [go_sem, *]; done)); have n1 : w1.cell? ⟨w.heap.size, 1, none⟩ = some (.int .i64 f) := (hb.cells _ _ (by first | with_reducible assumption | omega | (simp; done) | (simp; omega))).trans (by first | with_reducible assumption | (simp; done) | (simp; with_reducible assumption) | (rw [cell_alloc_before _ _ _ _ (by omega)]; with_reducible assumption) | (simp [go_sem, *]; done)); (first | (have nx := Ext.trans hx hb; clear hx) | (have nx := Ext.trans (hx.alloc _) hb; clear hx) | (have nx := Ext.trans hx.drew hb; clear hx) | have nx := hb); clear hb; try clear hs; try clear g0; try clear g1; have hx := nx; clear nx; have hs := ns; clear ns; have g0 := n0; clear n0; have g1 := n1; clear n1))))
    try go_wp2_with fail
    all_goals (try go_region)
    all_goals (try go_wp2_with fail)
    all_goals go_ret2
    all_goals exact ⟨rfl, (by repeat (first | exact Ext.refl _ | with_reducible assumption | apply Ext.alloc | apply Ext.drew | apply Ext.drewN | (refine Ext.setRow ?_ (by first | (simp; done) | (simp; omega) | omega) _) | (refine Ext.setCell ?_ (by first | (simp; done) | (simp; omega) | omega) _) | (refine Ext.trans ?_ (by with_reducible assumption))))⟩
  · go_enter Try.func65, Try.ntmps65
    go_wp2_with fail
    try (go_region_held3 (fun w' => w'.cell? ⟨w.heap.size, 0, none⟩ = some (.int .i64 e) ∧ w'.cell? ⟨w.heap.size, 1, none⟩ = some (.int .i64 f) ∧ w.heap.size < w'.heap.size) ((refine ⟨?_, ?_, ?_⟩ <;> first | with_reducible assumption | ((rw [cell_setRow_far _ _ _ _ _ (by omega)]); with_reducible assumption) | ((rw [setRow_size]); with_reducible assumption) | ((repeat rw [World.cell?_setCell_far _ _ _ _ (by simp)]); with_reducible assumption) | (simp; done) | (simp [World.setCell]; first | done | omega) | (simp [go_sem, World.cell?_alloc_past, World.cell?_setCell_far, *]; done))) ((first | (go_at_call 69; (with_reducible refine (S0.out _).mono ?_); rintro rv w1 ⟨rfl, hb⟩; have ns : w.heap.size < w1.heap.size := hb.lt (by first | with_reducible assumption | omega | (simp; done) | (simp; omega)); have n0 : w1.cell? ⟨w.heap.size, 0, none⟩ = some (.int .i64 e) := (hb.cells _ _ (by first | with_reducible assumption | omega | (simp; done) | (simp; omega))).trans (by first | with_reducible assumption | (simp; done) | (simp; with_reducible assumption) | (rw [cell_alloc_before _ _ _ _ (by omega)]; with_reducible assumption) | (simp [go_sem, *]; done)); have n1 : w1.cell? ⟨w.heap.size, 1, none⟩ = some (.int .i64 f) := (hb.cells _ _ (by first | with_reducible assumption | omega | (simp; done) | (simp; omega))).trans (by first | with_reducible assumption | (simp; done) | (simp; with_reducible assumption) | (rw [cell_alloc_before _ _ _ _ (by omega)]; with_reducible assumption) | (simp [go_sem, *]; done)); (first | (have nx := Ext.trans hx hb; clear hx) | (have nx := Ext.trans (hx.alloc _) hb; clear hx) | (have nx := Ext.trans hx.drew hb; clear hx) | have nx := hb); clear hb; try clear hs; try clear g0; try clear g1; have hx := nx; clear nx; have hs := ns; clear ns; have g0 := n0; clear n0; have g1 := n1; clear n1) | (go_at_call 69; (with_reducible refine (S1.out _).mono ?_); rintro rv w1 ⟨rfl, hb⟩; have ns : w.heap.size < w1.heap.size := hb.lt (by first | with_reducible assumption | omega | (simp; done) | (simp; omega)); have n0 : w1.cell? ⟨w.heap.size, 0, none⟩ = some (.int .i64 e) := (hb.cells _ _ (by first | with_reducible assumption | omega | (simp; done) | (simp; omega))).trans (by first | with_reducible assumption | (simp; done) | (simp; with_reducible assumption) | (rw [cell_alloc_before _ _ _ _ (by omega)]; with_reducible assumption) | (simp [go_sem, *]; done)); have n1 : w1.cell? ⟨w.heap.size, 1, none⟩ = some (.int .i64 f) := (hb.cells _ _ (by first | with_reducible assumption | omega | (simp; done) | (simp; omega))).trans (by first | with_reducible assumption | (simp; done) | (simp; with_reducible assumption) | (rw [cell_alloc_before _ _ _ _ (by omega)]; with_reducible assumption) | (simp [go_sem, *]; done)); (first | (have nx := Ext.trans hx hb; clear hx) | (have nx := Ext.trans (hx.alloc _) hb; clear hx) | (have nx := Ext.trans hx.drew hb; clear hx) | have nx := hb); clear hb; try clear hs; try clear g0; try clear g1; have hx := nx; clear nx; have hs := ns; clear ns; have g0 := n0; clear n0; have g1 := n1; clear n1))))
    go_wp2_with (first | (go_at_call 69; (with_reducible refine (S0.out _).mono ?_); rintro rv w1 ⟨rfl, hb⟩; have ns : w.heap.size < w1.heap.size := hb.lt (by first | with_reducible assumption | omega | (simp; done) | (simp; omega)); have n0 : w1.cell? ⟨w.heap.size, 0, none⟩ = some (.int .i64 e) := (hb.cells _ _ (by first | with_reducible assumption | omega | (simp; done) | (simp; omega))).trans (by first | with_reducible assumption | (simp; done) | (simp; with_reducible assumption) | (rw [cell_alloc_before _ _ _ _ (by omega)]; with_reducible assumption) | (simp [go_sem, *]; done)); have n1 : w1.cell? ⟨w.heap.size, 1, none⟩ = some (.int .i64 f) := (hb.cells _ _ (by first | with_reducible assumption | omega | (simp; done) | (simp; omega))).trans (by first | with_reducible assumption | (simp; done) | (simp; with_reducible assumption) | (rw [cell_alloc_before _ _ _ _ (by omega)]; with_reducible assumption) | (simp [go_sem, *]; done)); (first | (have nx := Ext.trans hx hb; clear hx) | (have nx := Ext.trans (hx.alloc _) hb; clear hx) | (have nx := Ext.trans hx.drew hb; clear hx) | have nx := hb); clear hb; try clear hs; try clear g0; try clear g1; have hx := nx; clear nx; have hs := ns; clear ns; have g0 := n0; clear n0; have g1 := n1; clear n1) | (go_at_call 69; (with_reducible refine (S1.out _).mono ?_); rintro rv w1 ⟨rfl, hb⟩; have ns : w.heap.size < w1.heap.size := hb.lt (by first | with_reducible assumption | omega | (simp; done) | (simp; omega)); have n0 : w1.cell? ⟨w.heap.size, 0, none⟩ = some (.int .i64 e) := (hb.cells _ _ (by first | with_reducible assumption | omega | (simp; done) | (simp; omega))).trans (by first | with_reducible assumption | (simp; done) | (simp; with_reducible assumption) | (rw [cell_alloc_before _ _ _ _ (by omega)]; with_reducible assumption) | (simp [go_sem, *]; done)); have n1 : w1.cell? ⟨w.heap.size, 1, none⟩ = some (.int .i64 f) := (hb.cells _ _ (by first | with_reducible assumption | omega | (simp; done) | (simp; omega))).trans (by first | with_reducible assumption | (simp; done) | (simp; with_reducible assumption) | (rw [cell_alloc_before _ _ _ _ (by omega)]; with_reducible assumption) | (simp [go_sem, *]; done)); (first | (have nx := Ext.trans hx hb; clear hx) | (have nx := Ext.trans (hx.alloc _) hb; clear hx) | (have nx := Ext.trans hx.drew hb; clear hx) | have nx := hb); clear hb; try clear hs; try clear g0; try clear g1; have hx := nx; clear nx; have hs := ns; clear ns; have g0 := n0; clear n0; have g1 := n1; clear n1) | (go_at_call 63; refine (HN.out (w1.heap.size) _ _ (by first | with_reducible assumption | (simp; done) | (simp [go_sem]; done) | (simp [go_sem, *]; done)) (by first | with_reducible assumption | (simp; done) | (simp [go_sem]; done) | (simp [go_sem, *]; done)) (by simp; try omega)).mono ?_; rintro rv w1 ⟨rfl, hb⟩; have ns : w.heap.size < w1.heap.size := hb.lt (by first | with_reducible assumption | omega | (simp; done) | (simp; omega)); have n0 : w1.cell? ⟨w.heap.size, 0, none⟩ = some (.int .i64 e) := (hb.cells _ _ (by first | with_reducible assumption | omega | (simp; done) | (simp; omega))).trans (by first | with_reducible assumption | (simp; done) | (simp; with_reducible assumption) | (rw [cell_alloc_before _ _ _ _ (by omega)]; with_reducible assumption) | (simp [go_sem, *]; done)); have n1 : w1.cell? ⟨w.heap.size, 1, none⟩ = some (.int .i64 f) := (hb.cells _ _ (by first | with_reducible assumption | omega | (simp; done) | (simp; omega))).trans (by first | with_reducible assumption | (simp; done) | (simp; with_reducible assumption) | (rw [cell_alloc_before _ _ _ _ (by omega)]; with_reducible assumption) | (simp [go_sem, *]; done)); (first | (have nx := Ext.trans hx hb; clear hx) | (have nx := Ext.trans (hx.alloc _) hb; clear hx) | (have nx := Ext.trans hx.drew hb; clear hx) | have nx := hb); clear hb; try clear hs; try clear g0; try clear g1; have hx := nx; clear nx; have hs := ns; clear ns; have g0 := n0; clear n0; have g1 := n1; clear n1))
    try (go_region_held3 (fun w' => w'.cell? ⟨w.heap.size, 0, none⟩ = some (.int .i64 e) ∧ w'.cell? ⟨w.heap.size, 1, none⟩ = some (.int .i64 f) ∧ w.heap.size < w'.heap.size) ((refine ⟨?_, ?_, ?_⟩ <;> first | with_reducible assumption | ((rw [cell_setRow_far _ _ _ _ _ (by omega)]); with_reducible assumption) | ((rw [setRow_size]); with_reducible assumption) | ((repeat rw [World.cell?_setCell_far _ _ _ _ (by simp)]); with_reducible assumption) | (simp; done) | (simp [World.setCell]; first | done | omega) | (simp [go_sem, World.cell?_alloc_past, World.cell?_setCell_far, *]; done))) ((first | (go_at_call 63; refine (HN.out _ _ _ (by first | with_reducible assumption | (simp; done) | (simp [go_sem]; done) | (simp [go_sem, *]; done)) (by first | with_reducible assumption | (simp; done) | (simp [go_sem]; done) | (simp [go_sem, *]; done)) (by simp; try omega)).mono ?_; rintro rv w1 ⟨rfl, hb⟩; have ns : w.heap.size < w1.heap.size := hb.lt (by first | with_reducible assumption | omega | (simp; done) | (simp; omega)); have n0 : w1.cell? ⟨w.heap.size, 0, none⟩ = some (.int .i64 e) := (hb.cells _ _ (by first | with_reducible assumption | omega | (simp; done) | (simp; omega))).trans (by first | with_reducible assumption | (simp; done) | (simp; with_reducible assumption) | (rw [cell_alloc_before _ _ _ _ (by omega)]; with_reducible assumption) | (simp [go_sem, *]; done)); have n1 : w1.cell? ⟨w.heap.size, 1, none⟩ = some (.int .i64 f) := (hb.cells _ _ (by first | with_reducible assumption | omega | (simp; done) | (simp; omega))).trans (by first | with_reducible assumption | (simp; done) | (simp; with_reducible assumption) | (rw [cell_alloc_before _ _ _ _ (by omega)]; with_reducible assumption) | (simp [go_sem, *]; done)); (first | (have nx := Ext.trans hx hb; clear hx) | (have nx := Ext.trans (hx.alloc _) hb; clear hx) | (have nx := Ext.trans hx.drew hb; clear hx) | have nx := hb); clear hb; try clear hs; try clear g0; try clear g1; have hx := nx; clear nx; have hs := ns; clear ns; have g0 := n0; clear n0; have g1 := n1; clear n1))))
    try go_wp2_with fail
    all_goals (try go_region)
    all_goals (try go_wp2_with fail)
    all_goals go_ret2
    all_goals exact ⟨rfl, (by repeat (first | exact Ext.refl _ | with_reducible assumption | apply Ext.alloc | apply Ext.drew | apply Ext.drewN | (refine Ext.setRow ?_ (by first | (simp; done) | (simp; omega) | omega) _) | (refine Ext.setCell ?_ (by first | (simp; done) | (simp; omega) | omega) _) | (refine Ext.trans ?_ (by with_reducible assumption))))⟩

set_option maxHeartbeats 3200000 in
theorem nwe_lt (e f : Int) (x0 x1 z0 z1 r d e2 : Nat) (S0 : RowKit.Hid (∀ w, Calls Try.prog 69 #[.float .f32 x0] w fun rv w' => rv = .returned (.float .f32 z0) ∧ Ext w w')) (S1 : RowKit.Hid (∀ w, Calls Try.prog 69 #[.float .f32 x1] w fun rv w' => rv = .returned (.float .f32 z1) ∧ Ext w w')) (o : FloatKind.f32.format.order z0 z1 = some .lt)
    (HN : RowKit.Hid (∀ (gl cap : Nat) (w : World) (c0 : w.cell? ⟨gl, 0, none⟩ = some (.float .f32 x1)) (c1 : w.cell? ⟨gl, 1, none⟩ = some (.float .f32 x0)) (hgl : gl < w.heap.size), Calls Try.prog 63 #[fmt e f, .slice (some ⟨gl, 0, none⟩) 2 cap] w fun rv w' => rv = .returned (.float .f32 r) ∧ Ext w w'))
    (h1 : floatBits .sub .f32 x1 r = some d) (h2 : floatBits .add .f32 d x0 = some e2) (w : World) : Calls Try.prog 65 #[fmt e f, .float .f32 x0, .float .f32 x1] w fun rv w' => rv = .returned (.tuple #[.float .f32 r, .float .f32 e2]) ∧ Ext w w' := by
  have A1 : ∀ (t : TypeId) (w : World), (binOp .sub t (.float .f32 x1) (.float .f32 r)).run Try.prog w = .ok (.float .f32 d) w := fun t w => run_float_arith w .sub t .f32 _ _ _ h1
  have A2 : ∀ (t : TypeId) (w : World), (binOp .add t (.float .f32 d) (.float .f32 x0)).run Try.prog w = .ok (.float .f32 e2) w := fun t w => run_float_arith w .add t .f32 _ _ _ h2
  clear h1 h2
  · go_enter Try.func65, Try.ntmps65
    go_wp2_with fail
    try (go_region_held3 (fun w' => w'.cell? ⟨w.heap.size, 0, none⟩ = some (.int .i64 e) ∧ w'.cell? ⟨w.heap.size, 1, none⟩ = some (.int .i64 f) ∧ w.heap.size < w'.heap.size) ((refine ⟨?_, ?_, ?_⟩ <;> first | with_reducible assumption | ((rw [cell_setRow_far _ _ _ _ _ (by omega)]); with_reducible assumption) | ((rw [setRow_size]); with_reducible assumption) | ((repeat rw [World.cell?_setCell_far _ _ _ _ (by simp)]); with_reducible assumption) | (simp; done) | (simp [World.setCell]; first | done | omega) | (simp [go_sem, World.cell?_alloc_past, World.cell?_setCell_far, *]; done))) ((first | (go_at_call 69; (with_reducible refine (S0.out _).mono ?_); rintro rv w1 ⟨rfl, hb⟩; have ns : w.heap.size < w1.heap.size := hb.lt (by first | with_reducible assumption | omega | (simp; done) | (simp; omega)); have n0 : w1.cell? ⟨w.heap.size, 0, none⟩ = some (.int .i64 e) := (hb.cells _ _ (by first | with_reducible assumption | omega | (simp; done) | (simp; omega))).trans (by first | with_reducible assumption | (simp; done) | (simp; with_reducible assumption) | (rw [cell_alloc_before _ _ _ _ (by omega)]; with_reducible assumption) | (simp [go_sem, *]; done)); have n1 : w1.cell? ⟨w.heap.size, 1, none⟩ = some (.int .i64 f) := (hb.cells _ _ (by first | with_reducible assumption | omega | (simp; done) | (simp; omega))).trans (by first | with_reducible assumption | (simp; done) | (simp; with_reducible assumption) | (rw [cell_alloc_before _ _ _ _ (by omega)]; with_reducible assumption) | (simp [go_sem, *]; done)); (first | (have nx := Ext.trans hx hb; clear hx) | (have nx := Ext.trans (hx.alloc _) hb; clear hx) | (have nx := Ext.trans hx.drew hb; clear hx) | have nx := hb); clear hb; try clear hs; try clear g0; try clear g1; have hx := nx; clear nx; have hs := ns; clear ns; have g0 := n0; clear n0; have g1 := n1; clear n1) | (go_at_call 69; (with_reducible refine (S1.out _).mono ?_); rintro rv w1 ⟨rfl, hb⟩; have ns : w.heap.size < w1.heap.size := hb.lt (by first | with_reducible assumption | omega | (simp; done) | (simp; omega)); have n0 : w1.cell? ⟨w.heap.size, 0, none⟩ = some (.int .i64 e) := (hb.cells _ _ (by first | with_reducible assumption | omega | (simp; done) | (simp; omega))).trans (by first | with_reducible assumption | (simp; done) | (simp; with_reducible assumption) | (rw [cell_alloc_before _ _ _ _ (by omega)]; with_reducible assumption) | (simp [go_sem, *]; done)); have n1 : w1.cell? ⟨w.heap.size, 1, none⟩ = some (.int .i64 f) := (hb.cells _ _ (by first | with_reducible assumption | omega | (simp; done) | (simp; omega))).trans (by first | with_reducible assumption | (simp; done) | (simp; with_reducible assumption) | (rw [cell_alloc_before _ _ _ _ (by omega)]; with_reducible assumption) | (simp [go_sem, *]; done)); (first | (have nx := Ext.trans hx hb; clear hx) | (have nx := Ext.trans (hx.alloc _) hb; clear hx) | (have nx := Ext.trans hx.drew hb; clear hx) | have nx := hb); clear hb; try clear hs; try clear g0; try clear g1; have hx := nx; clear nx; have hs := ns; clear ns; have g0 := n0; clear n0; have g1 := n1; clear n1))))
    go_wp2_with (first | (go_at_call 69; (with_reducible refine (S0.out _).mono ?_); rintro rv w1 ⟨rfl, hb⟩; have ns : w.heap.size < w1.heap.size := hb.lt (by first | with_reducible assumption | omega | (simp; done) | (simp; omega)); have n0 : w1.cell? ⟨w.heap.size, 0, none⟩ = some (.int .i64 e) := (hb.cells _ _ (by first | with_reducible assumption | omega | (simp; done) | (simp; omega))).trans (by first | with_reducible assumption | (simp; done) | (simp; with_reducible assumption) | (rw [cell_alloc_before _ _ _ _ (by omega)]; with_reducible assumption) | (simp [go_sem, *]; done)); have n1 : w1.cell? ⟨w.heap.size, 1, none⟩ = some (.int .i64 f) := (hb.cells _ _ (by first | with_reducible assumption | omega | (simp; done) | (simp; omega))).trans (by first | with_reducible assumption | (simp; done) | (simp; with_reducible assumption) | (rw [cell_alloc_before _ _ _ _ (by omega)]; with_reducible assumption) | (simp [go_sem, *]; done)); (first | (have nx := Ext.trans hx hb; clear hx) | (have nx := Ext.trans (hx.alloc _) hb; clear hx) | (have nx := Ext.trans hx.drew hb; clear hx) | have nx := hb); clear hb; try clear hs; try clear g0; try clear g1; have hx := nx; clear nx; have hs := ns; clear ns; have g0 := n0; clear n0; have g1 := n1; clear n1) | (go_at_call 69; (with_reducible refine (S1.out _).mono ?_); rintro rv w1 ⟨rfl, hb⟩; have ns : w.heap.size < w1.heap.size := hb.lt (by first | with_reducible assumption | omega | (simp; done) | (simp; omega)); have n0 : w1.cell? ⟨w.heap.size, 0, none⟩ = some (.int .i64 e) := (hb.cells _ _ (by first | with_reducible assumption | omega | (simp; done) | (simp; omega))).trans (by first | with_reducible assumption | (simp; done) | (simp; with_reducible assumption) | (rw [cell_alloc_before _ _ _ _ (by omega)]; with_reducible assumption) | (simp [go_sem, *]; done)); have n1 : w1.cell? ⟨w.heap.size, 1, none⟩ = some (.int .i64 f) := (hb.cells _ _ (by first | with_reducible assumption | omega | (simp; done) | (simp; omega))).trans (by first | with_reducible assumption | (simp; done) | (simp; with_reducible assumption) | (rw [cell_alloc_before _ _ _ _ (by omega)]; with_reducible assumption) | (simp [go_sem, *]; done)); (first | (have nx := Ext.trans hx hb; clear hx) | (have nx := Ext.trans (hx.alloc _) hb; clear hx) | (have nx := Ext.trans hx.drew hb; clear hx) | have nx := hb); clear hb; try clear hs; try clear g0; try clear g1; have hx := nx; clear nx; have hs := ns; clear ns; have g0 := n0; clear n0; have g1 := n1; clear n1) | (go_at_call 63; refine (HN.out (w1.heap.size) _ _ (by first | with_reducible assumption | (simp; done) | (simp [go_sem]; done) | (simp [go_sem, *]; done)) (by first | with_reducible assumption | (simp; done) | (simp [go_sem]; done) | (simp [go_sem, *]; done)) (by simp; try omega)).mono ?_; rintro rv w1 ⟨rfl, hb⟩; have ns : w.heap.size < w1.heap.size := hb.lt (by first | with_reducible assumption | omega | (simp; done) | (simp; omega)); have n0 : w1.cell? ⟨w.heap.size, 0, none⟩ = some (.int .i64 e) := (hb.cells _ _ (by first | with_reducible assumption | omega | (simp; done) | (simp; omega))).trans (by first | with_reducible assumption | (simp; done) | (simp; with_reducible assumption) | (rw [cell_alloc_before _ _ _ _ (by omega)]; with_reducible assumption) | (simp [go_sem, *]; done)); have n1 : w1.cell? ⟨w.heap.size, 1, none⟩ = some (.int .i64 f) := (hb.cells _ _ (by first | with_reducible assumption | omega | (simp; done) | (simp; omega))).trans (by first | with_reducible assumption | (simp; done) | (simp; with_reducible assumption) | (rw [cell_alloc_before _ _ _ _ (by omega)]; with_reducible assumption) | (simp [go_sem, *]; done)); (first | (have nx := Ext.trans hx hb; clear hx) | (have nx := Ext.trans (hx.alloc _) hb; clear hx) | (have nx := Ext.trans hx.drew hb; clear hx) | have nx := hb); clear hb; try clear hs; try clear g0; try clear g1; have hx := nx; clear nx; have hs := ns; clear ns; have g0 := n0; clear n0; have g1 := n1; clear n1))
    try (go_region_held3 (fun w' => w'.cell? ⟨w.heap.size, 0, none⟩ = some (.int .i64 e) ∧ w'.cell? ⟨w.heap.size, 1, none⟩ = some (.int .i64 f) ∧ w.heap.size < w'.heap.size) ((refine ⟨?_, ?_, ?_⟩ <;> first | with_reducible assumption | ((rw [cell_setRow_far _ _ _ _ _ (by omega)]); with_reducible assumption) | ((rw [setRow_size]); with_reducible assumption) | ((repeat rw [World.cell?_setCell_far _ _ _ _ (by simp)]); with_reducible assumption) | (simp; done) | (simp [World.setCell]; first | done | omega) | (simp [go_sem, World.cell?_alloc_past, World.cell?_setCell_far, *]; done))) ((first | (go_at_call 63; refine (HN.out _ _ _ (by first | with_reducible assumption | (simp; done) | (simp [go_sem]; done) | (simp [go_sem, *]; done)) (by first | with_reducible assumption | (simp; done) | (simp [go_sem]; done) | (simp [go_sem, *]; done)) (by simp; try omega)).mono ?_; rintro rv w1 ⟨rfl, hb⟩; have ns : w.heap.size < w1.heap.size := hb.lt (by first | with_reducible assumption | omega | (simp; done) | (simp; omega)); have n0 : w1.cell? ⟨w.heap.size, 0, none⟩ = some (.int .i64 e) := (hb.cells _ _ (by first | with_reducible assumption | omega | (simp; done) | (simp; omega))).trans (by first | with_reducible assumption | (simp; done) | (simp; with_reducible assumption) | (rw [cell_alloc_before _ _ _ _ (by omega)]; with_reducible assumption) | (simp [go_sem, *]; done)); have n1 : w1.cell? ⟨w.heap.size, 1, none⟩ = some (.int .i64 f) := (hb.cells _ _ (by first | with_reducible assumption | omega | (simp; done) | (simp; omega))).trans (by first | with_reducible assumption | (simp; done) | (simp; with_reducible assumption) | (rw [cell_alloc_before _ _ _ _ (by omega)]; with_reducible assumption) | (simp [go_sem, *]; done)); (first | (have nx := Ext.trans hx hb; clear hx) | (have nx := Ext.trans (hx.alloc _) hb; clear hx) | (have nx := Ext.trans hx.drew hb; clear hx) | have nx := hb); clear hb; try clear hs; try clear g0; try clear g1; have hx := nx; clear nx; have hs := ns; clear ns; have g0 := n0; clear n0; have g1 := n1; clear n1))))
    try go_wp2_with fail
    all_goals (try go_region)
    all_goals (try go_wp2_with fail)
    all_goals go_ret2
    all_goals exact ⟨rfl, (by repeat (first | exact Ext.refl _ | with_reducible assumption | apply Ext.alloc | apply Ext.drew | apply Ext.drewN | (refine Ext.setRow ?_ (by first | (simp; done) | (simp; omega) | omega) _) | (refine Ext.setCell ?_ (by first | (simp; done) | (simp; omega) | omega) _) | (refine Ext.trans ?_ (by with_reducible assumption))))⟩
end Go.Proofs.Ytcbkhlaiefiieac

namespace Go.Proofs.Ytcbkhlaiefiieac
open Go Go.RowKit
set_option linter.unusedSimpArgs false
set_option linter.unusedVariables false
set_option maxRecDepth 100000

theorem two_err2 {e f a b : Int} (ha : finB e f a = true) (hb2 : finB e f b = true) (hB : nsB e f (unitsV e f a + unitsV e f b) = true) :
    nsB e f (erU e f (unitsV e f a + unitsV e f b)) = true ∧ nsU e f (erU e f (unitsV e f a + unitsV e f b)) = erU e f (unitsV e f a + unitsV e f b) := by
  rcases Nat.le_total (unitsV e f b).natAbs (unitsV e f a).natAbs with h | h
  · exact (two_err ha hb2 hB h).2
  · rw [Int.add_comm] at hB ⊢
    exact (two_err hb2 ha hB h).2

theorem er_bd {e f a b : Int} (ha : finB e f a = true) (hb2 : finB e f b = true) (hB : nsB e f (unitsV e f a + unitsV e f b) = true) :
    -2199023255552 < erU e f (unitsV e f a + unitsV e f b) ∧ erU e f (unitsV e f a + unitsV e f b) < 2199023255552 := by
  obtain ⟨hg, _⟩ := fin_size ha
  obtain ⟨o1, o2⟩ := two_err2 ha hb2 hB
  obtain ⟨n1, _⟩ := nsU_abs hg o1
  have := mg_bd hg (nsP_bd (u := erU e f (unitsV e f a + unitsV e f b)) hg).1 (of_decide_eq_true o1)
  rw [o2] at n1
  omega

set_option maxHeartbeats 1600000 in
theorem exTwo_any (e f a b : Int) (hg : (finB e f a && finB e f b) = true) (w : World) : Calls Try.prog 64 #[fmt e f, .int .i64 a, .int .i64 b] w fun rv w' => rv = .returned (.tuple #[.int .i64 (nsR e f ((unitsV e f a) + (unitsV e f b))), .int .i64 (erR e f ((unitsV e f a) + (unitsV e f b))), .bool (nsB e f ((unitsV e f a) + (unitsV e f b)))]) ∧ Ext w w' := by
  obtain ⟨ha, hb2⟩ : finB e f a = true ∧ finB e f b = true := by simpa using hg
  obtain ⟨hgg, _⟩ := fin_size ha
  have hap := (fin_pat ha).1
  have hbp := (fin_pat hb2).1
  obtain ⟨sm1, sm2, sm3, sm4, sm5, sm6⟩ := ns_small ha hb2
  have ESA := fun w => exSum_any e f a b hg w
  cases hB : nsB e f ((unitsV e f a) + (unitsV e f b))
  · have e1 : nsR e f ((unitsV e f a) + (unitsV e f b)) = 0 := by unfold nsR; rw [hB]; rfl
    have e2 : erR e f ((unitsV e f a) + (unitsV e f b)) = 0 := by unfold erR; rw [hB]; rfl
    rw [hB] at ESA
    rw [e1, e2]
    have ESH := Lib.hid ESA; clear ESA
    generalize nsV e f ((unitsV e f a) + (unitsV e f b)) = v at *
    clear e1 e2 sm1 sm2 sm3 sm4 sm5 sm6
    go_enter Try.func64, Try.ntmps64
    go_wp2_with (go_at_call 60; refine (ESH.out _).mono ?_; rintro rv w1 ⟨rfl, hb⟩; have ns : w.heap.size < w1.heap.size := hb.lt (by first | with_reducible assumption | omega | (simp; done) | (simp; omega)); have n0 : w1.cell? ⟨w.heap.size, 0, none⟩ = some (.int .i64 e) := (hb.cells _ _ (by first | with_reducible assumption | omega | (simp; done) | (simp; omega))).trans (by first | with_reducible assumption | (simp; done) | (simp; with_reducible assumption) | (rw [cell_alloc_before _ _ _ _ (by omega)]; with_reducible assumption) | (simp [go_sem, *]; done)); have n1 : w1.cell? ⟨w.heap.size, 1, none⟩ = some (.int .i64 f) := (hb.cells _ _ (by first | with_reducible assumption | omega | (simp; done) | (simp; omega))).trans (by first | with_reducible assumption | (simp; done) | (simp; with_reducible assumption) | (rw [cell_alloc_before _ _ _ _ (by omega)]; with_reducible assumption) | (simp [go_sem, *]; done)); (first | (have nx := Ext.trans hx hb; clear hx) | (have nx := Ext.trans (hx.alloc _) hb; clear hx) | (have nx := Ext.trans hx.drew hb; clear hx) | have nx := hb); clear hb; try clear hs; try clear g0; try clear g1; have hx := nx; clear nx; have hs := ns; clear ns; have g0 := n0; clear n0; have g1 := n1; clear n1)
    go_ret3
    exact ⟨rfl, (by repeat (first | exact Ext.refl _ | with_reducible assumption | apply Ext.alloc | apply Ext.drew | apply Ext.drewN | (refine Ext.setRow ?_ (by first | (simp; done) | (simp; omega) | omega) _) | (refine Ext.setCell ?_ (by first | (simp; done) | (simp; omega) | omega) _) | (refine Ext.trans ?_ (by with_reducible assumption))))⟩
  · have e1 : nsR e f ((unitsV e f a) + (unitsV e f b)) = nsV e f ((unitsV e f a) + (unitsV e f b)) := by unfold nsR; rw [hB]; rfl
    have e2 : erR e f ((unitsV e f a) + (unitsV e f b)) = nsV e f (erU e f ((unitsV e f a) + (unitsV e f b))) := by unfold erR; rw [hB]; rfl
    obtain ⟨np, _⟩ := ns_pat (u := ((unitsV e f a) + (unitsV e f b))) hgg
    have nu := ns_units hgg hB
    obtain ⟨er1, er2⟩ := er_bd ha hb2 hB
    have EOA := fun w => exOf_any e f (erU e f ((unitsV e f a) + (unitsV e f b))) hgg (by omega) (by omega) w
    have UNS := fun w => fmUnits_any e f (nsV e f ((unitsV e f a) + (unitsV e f b))) np w
    rw [nu] at UNS
    unfold erU at EOA er1 er2
    rw [hB] at ESA
    rw [e1, e2]
    unfold erU
    clear e1 e2 nu
    have kw : IntKind.i64.wrap ((unitsV e f a) + (unitsV e f b)) = ((unitsV e f a) + (unitsV e f b)) := IntWalk.i64_in _ (by omega)
    have kx : IntKind.i64.wrap (((unitsV e f a) + (unitsV e f b)) - nsU e f ((unitsV e f a) + (unitsV e f b))) = ((unitsV e f a) + (unitsV e f b)) - nsU e f ((unitsV e f a) + (unitsV e f b)) := IntWalk.i64_in _ (by omega)
    generalize nsV e f (((unitsV e f a) + (unitsV e f b)) - nsU e f ((unitsV e f a) + (unitsV e f b))) = v2 at *
    generalize nsU e f ((unitsV e f a) + (unitsV e f b)) = u2 at *
    generalize nsV e f ((unitsV e f a) + (unitsV e f b)) = v at *
    have ESH := Lib.hid ESA; clear ESA
    have EOH := Lib.hid EOA; clear EOA
    have UNH := Lib.hid UNS; clear UNS
    clear sm1 sm2 sm3 sm4 sm5 sm6 er1 er2
    go_enter Try.func64, Try.ntmps64
    go_wp2_with (go_at_call 60; refine (ESH.out _).mono ?_; rintro rv w1 ⟨rfl, hb⟩; have ns : w.heap.size < w1.heap.size := hb.lt (by first | with_reducible assumption | omega | (simp; done) | (simp; omega)); have n0 : w1.cell? ⟨w.heap.size, 0, none⟩ = some (.int .i64 e) := (hb.cells _ _ (by first | with_reducible assumption | omega | (simp; done) | (simp; omega))).trans (by first | with_reducible assumption | (simp; done) | (simp; with_reducible assumption) | (rw [cell_alloc_before _ _ _ _ (by omega)]; with_reducible assumption) | (simp [go_sem, *]; done)); have n1 : w1.cell? ⟨w.heap.size, 1, none⟩ = some (.int .i64 f) := (hb.cells _ _ (by first | with_reducible assumption | omega | (simp; done) | (simp; omega))).trans (by first | with_reducible assumption | (simp; done) | (simp; with_reducible assumption) | (rw [cell_alloc_before _ _ _ _ (by omega)]; with_reducible assumption) | (simp [go_sem, *]; done)); (first | (have nx := Ext.trans hx hb; clear hx) | (have nx := Ext.trans (hx.alloc _) hb; clear hx) | (have nx := Ext.trans hx.drew hb; clear hx) | have nx := hb); clear hb; try clear hs; try clear g0; try clear g1; have hx := nx; clear nx; have hs := ns; clear ns; have g0 := n0; clear n0; have g1 := n1; clear n1)
    go_region_held3 (fun w' => w'.cell? ⟨w.heap.size, 0, none⟩ = some (.int .i64 e) ∧ w'.cell? ⟨w.heap.size, 1, none⟩ = some (.int .i64 f) ∧ w.heap.size < w'.heap.size) ((refine ⟨?_, ?_, ?_⟩ <;> first | with_reducible assumption | ((rw [cell_setRow_far _ _ _ _ _ (by omega)]); with_reducible assumption) | ((rw [setRow_size]); with_reducible assumption) | ((repeat rw [World.cell?_setCell_far _ _ _ _ (by simp)]); with_reducible assumption) | (simp; done) | (simp [World.setCell]; first | done | omega) | (simp [go_sem, World.cell?_alloc_past, World.cell?_setCell_far, *]; done))) ((first | (go_at_call 119; (with_reducible refine (fmUnits_any e f a hap _).mono ?_); rintro rv w1 ⟨rfl, hb⟩; have ns : w.heap.size < w1.heap.size := hb.lt (by first | with_reducible assumption | omega | (simp; done) | (simp; omega)); have n0 : w1.cell? ⟨w.heap.size, 0, none⟩ = some (.int .i64 e) := (hb.cells _ _ (by first | with_reducible assumption | omega | (simp; done) | (simp; omega))).trans (by first | with_reducible assumption | (simp; done) | (simp; with_reducible assumption) | (rw [cell_alloc_before _ _ _ _ (by omega)]; with_reducible assumption) | (simp [go_sem, *]; done)); have n1 : w1.cell? ⟨w.heap.size, 1, none⟩ = some (.int .i64 f) := (hb.cells _ _ (by first | with_reducible assumption | omega | (simp; done) | (simp; omega))).trans (by first | with_reducible assumption | (simp; done) | (simp; with_reducible assumption) | (rw [cell_alloc_before _ _ _ _ (by omega)]; with_reducible assumption) | (simp [go_sem, *]; done)); (first | (have nx := Ext.trans hx hb; clear hx) | (have nx := Ext.trans (hx.alloc _) hb; clear hx) | (have nx := Ext.trans hx.drew hb; clear hx) | have nx := hb); clear hb; try clear hs; try clear g0; try clear g1; have hx := nx; clear nx; have hs := ns; clear ns; have g0 := n0; clear n0; have g1 := n1; clear n1) | (go_at_call 119; (with_reducible refine (fmUnits_any e f b hbp _).mono ?_); rintro rv w1 ⟨rfl, hb⟩; have ns : w.heap.size < w1.heap.size := hb.lt (by first | with_reducible assumption | omega | (simp; done) | (simp; omega)); have n0 : w1.cell? ⟨w.heap.size, 0, none⟩ = some (.int .i64 e) := (hb.cells _ _ (by first | with_reducible assumption | omega | (simp; done) | (simp; omega))).trans (by first | with_reducible assumption | (simp; done) | (simp; with_reducible assumption) | (rw [cell_alloc_before _ _ _ _ (by omega)]; with_reducible assumption) | (simp [go_sem, *]; done)); have n1 : w1.cell? ⟨w.heap.size, 1, none⟩ = some (.int .i64 f) := (hb.cells _ _ (by first | with_reducible assumption | omega | (simp; done) | (simp; omega))).trans (by first | with_reducible assumption | (simp; done) | (simp; with_reducible assumption) | (rw [cell_alloc_before _ _ _ _ (by omega)]; with_reducible assumption) | (simp [go_sem, *]; done)); (first | (have nx := Ext.trans hx hb; clear hx) | (have nx := Ext.trans (hx.alloc _) hb; clear hx) | (have nx := Ext.trans hx.drew hb; clear hx) | have nx := hb); clear hb; try clear hs; try clear g0; try clear g1; have hx := nx; clear nx; have hs := ns; clear ns; have g0 := n0; clear n0; have g1 := n1; clear n1) | (go_at_call 119; (with_reducible refine (UNH.out _).mono ?_); rintro rv w1 ⟨rfl, hb⟩; have ns : w.heap.size < w1.heap.size := hb.lt (by first | with_reducible assumption | omega | (simp; done) | (simp; omega)); have n0 : w1.cell? ⟨w.heap.size, 0, none⟩ = some (.int .i64 e) := (hb.cells _ _ (by first | with_reducible assumption | omega | (simp; done) | (simp; omega))).trans (by first | with_reducible assumption | (simp; done) | (simp; with_reducible assumption) | (rw [cell_alloc_before _ _ _ _ (by omega)]; with_reducible assumption) | (simp [go_sem, *]; done)); have n1 : w1.cell? ⟨w.heap.size, 1, none⟩ = some (.int .i64 f) := (hb.cells _ _ (by first | with_reducible assumption | omega | (simp; done) | (simp; omega))).trans (by first | with_reducible assumption | (simp; done) | (simp; with_reducible assumption) | (rw [cell_alloc_before _ _ _ _ (by omega)]; with_reducible assumption) | (simp [go_sem, *]; done)); (first | (have nx := Ext.trans hx hb; clear hx) | (have nx := Ext.trans (hx.alloc _) hb; clear hx) | (have nx := Ext.trans hx.drew hb; clear hx) | have nx := hb); clear hb; try clear hs; try clear g0; try clear g1; have hx := nx; clear nx; have hs := ns; clear ns; have g0 := n0; clear n0; have g1 := n1; clear n1) | (go_at_call 122; refine (EOH.out _).mono ?_; rintro rv w1 ⟨rfl, hb⟩; have ns : w.heap.size < w1.heap.size := hb.lt (by first | with_reducible assumption | omega | (simp; done) | (simp; omega)); have n0 : w1.cell? ⟨w.heap.size, 0, none⟩ = some (.int .i64 e) := (hb.cells _ _ (by first | with_reducible assumption | omega | (simp; done) | (simp; omega))).trans (by first | with_reducible assumption | (simp; done) | (simp; with_reducible assumption) | (rw [cell_alloc_before _ _ _ _ (by omega)]; with_reducible assumption) | (simp [go_sem, *]; done)); have n1 : w1.cell? ⟨w.heap.size, 1, none⟩ = some (.int .i64 f) := (hb.cells _ _ (by first | with_reducible assumption | omega | (simp; done) | (simp; omega))).trans (by first | with_reducible assumption | (simp; done) | (simp; with_reducible assumption) | (rw [cell_alloc_before _ _ _ _ (by omega)]; with_reducible assumption) | (simp [go_sem, *]; done)); (first | (have nx := Ext.trans hx hb; clear hx) | (have nx := Ext.trans (hx.alloc _) hb; clear hx) | (have nx := Ext.trans hx.drew hb; clear hx) | have nx := hb); clear hb; try clear hs; try clear g0; try clear g1; have hx := nx; clear nx; have hs := ns; clear ns; have g0 := n0; clear n0; have g1 := n1; clear n1)))
    go_wp2_with fail
    go_ret3
    exact ⟨rfl, (by repeat (first | exact Ext.refl _ | with_reducible assumption | apply Ext.alloc | apply Ext.drew | apply Ext.drewN | (refine Ext.setRow ?_ (by first | (simp; done) | (simp; omega) | omega) _) | (refine Ext.setCell ?_ (by first | (simp; done) | (simp; omega) | omega) _) | (refine Ext.trans ?_ (by with_reducible assumption))))⟩

theorem sTwoSum_no (e f a b : Int) (hg : (finB e f a && finB e f b) = false) (w : World) : Calls Try.prog 17 #[fmt e f, .int .i64 a, .int .i64 b] w fun rv w' => rv = .returned (.tuple #[.int .i64 0, .int .i64 0, .bool false]) ∧ Ext w w' := by
  go_enter Try.func17, Try.ntmps17
  go_wp2_with (go_at_call 59; refine (exBoth_any e f a b _).mono ?_; rintro rv w1 ⟨rfl, hb⟩; have ns : w.heap.size < w1.heap.size := hb.lt (by first | with_reducible assumption | omega | (simp; done) | (simp; omega)); have n0 : w1.cell? ⟨w.heap.size, 0, none⟩ = some (.int .i64 e) := (hb.cells _ _ (by first | with_reducible assumption | omega | (simp; done) | (simp; omega))).trans (by first | with_reducible assumption | (simp; done) | (simp; with_reducible assumption) | (rw [cell_alloc_before _ _ _ _ (by omega)]; with_reducible assumption) | (simp [go_sem, *]; done)); have n1 : w1.cell? ⟨w.heap.size, 1, none⟩ = some (.int .i64 f) := (hb.cells _ _ (by first | with_reducible assumption | omega | (simp; done) | (simp; omega))).trans (by first | with_reducible assumption | (simp; done) | (simp; with_reducible assumption) | (rw [cell_alloc_before _ _ _ _ (by omega)]; with_reducible assumption) | (simp [go_sem, *]; done)); (first | (have nx := Ext.trans hx hb; clear hx) | (have nx := Ext.trans (hx.alloc _) hb; clear hx) | (have nx := Ext.trans hx.drew hb; clear hx) | have nx := hb); clear hb; try clear hs; try clear g0; try clear g1; have hx := nx; clear nx; have hs := ns; clear ns; have g0 := n0; clear n0; have g1 := n1; clear n1)
  go_ret3
  exact ⟨rfl, (by repeat (first | exact Ext.refl _ | with_reducible assumption | apply Ext.alloc | apply Ext.drew | apply Ext.drewN | (refine Ext.setRow ?_ (by first | (simp; done) | (simp; omega) | omega) _) | (refine Ext.setCell ?_ (by first | (simp; done) | (simp; omega) | omega) _) | (refine Ext.trans ?_ (by with_reducible assumption))))⟩

theorem sTwoSum_yes (e f a b : Int) (hg : (finB e f a && finB e f b) = true) (w : World) : Calls Try.prog 17 #[fmt e f, .int .i64 a, .int .i64 b] w fun rv w' => rv = .returned (.tuple #[.int .i64 (nsR e f ((unitsV e f a) + (unitsV e f b))), .int .i64 (erR e f ((unitsV e f a) + (unitsV e f b))), .bool (nsB e f ((unitsV e f a) + (unitsV e f b)))]) ∧ Ext w w' := by
  have ESH := Lib.hid (fun w => exTwo_any e f a b hg w)
  go_enter Try.func17, Try.ntmps17
  go_wp2_with (first | (go_at_call 59; refine (exBoth_any e f a b _).mono ?_; rintro rv w1 ⟨rfl, hb⟩; have ns : w.heap.size < w1.heap.size := hb.lt (by first | with_reducible assumption | omega | (simp; done) | (simp; omega)); have n0 : w1.cell? ⟨w.heap.size, 0, none⟩ = some (.int .i64 e) := (hb.cells _ _ (by first | with_reducible assumption | omega | (simp; done) | (simp; omega))).trans (by first | with_reducible assumption | (simp; done) | (simp; with_reducible assumption) | (rw [cell_alloc_before _ _ _ _ (by omega)]; with_reducible assumption) | (simp [go_sem, *]; done)); have n1 : w1.cell? ⟨w.heap.size, 1, none⟩ = some (.int .i64 f) := (hb.cells _ _ (by first | with_reducible assumption | omega | (simp; done) | (simp; omega))).trans (by first | with_reducible assumption | (simp; done) | (simp; with_reducible assumption) | (rw [cell_alloc_before _ _ _ _ (by omega)]; with_reducible assumption) | (simp [go_sem, *]; done)); (first | (have nx := Ext.trans hx hb; clear hx) | (have nx := Ext.trans (hx.alloc _) hb; clear hx) | (have nx := Ext.trans hx.drew hb; clear hx) | have nx := hb); clear hb; try clear hs; try clear g0; try clear g1; have hx := nx; clear nx; have hs := ns; clear ns; have g0 := n0; clear n0; have g1 := n1; clear n1) | (go_at_call 64; refine (ESH.out _).mono ?_; rintro rv w1 ⟨rfl, hb⟩; have ns : w.heap.size < w1.heap.size := hb.lt (by first | with_reducible assumption | omega | (simp; done) | (simp; omega)); have n0 : w1.cell? ⟨w.heap.size, 0, none⟩ = some (.int .i64 e) := (hb.cells _ _ (by first | with_reducible assumption | omega | (simp; done) | (simp; omega))).trans (by first | with_reducible assumption | (simp; done) | (simp; with_reducible assumption) | (rw [cell_alloc_before _ _ _ _ (by omega)]; with_reducible assumption) | (simp [go_sem, *]; done)); have n1 : w1.cell? ⟨w.heap.size, 1, none⟩ = some (.int .i64 f) := (hb.cells _ _ (by first | with_reducible assumption | omega | (simp; done) | (simp; omega))).trans (by first | with_reducible assumption | (simp; done) | (simp; with_reducible assumption) | (rw [cell_alloc_before _ _ _ _ (by omega)]; with_reducible assumption) | (simp [go_sem, *]; done)); (first | (have nx := Ext.trans hx hb; clear hx) | (have nx := Ext.trans (hx.alloc _) hb; clear hx) | (have nx := Ext.trans hx.drew hb; clear hx) | have nx := hb); clear hb; try clear hs; try clear g0; try clear g1; have hx := nx; clear nx; have hs := ns; clear ns; have g0 := n0; clear n0; have g1 := n1; clear n1))
  go_ret3
  exact ⟨rfl, (by repeat (first | exact Ext.refl _ | with_reducible assumption | apply Ext.alloc | apply Ext.drew | apply Ext.drewN | (refine Ext.setRow ?_ (by first | (simp; done) | (simp; omega) | omega) _) | (refine Ext.setCell ?_ (by first | (simp; done) | (simp; omega) | omega) _) | (refine Ext.trans ?_ (by with_reducible assumption))))⟩

theorem size_cw (u : Int) (h : Ok Ieee.single (u.natAbs * 2 ^ 149)) (w : World) : Calls Try.prog 69 #[.float .f32 (cw u)] w fun rv w' => rv = .returned (.float .f32 (zw u)) ∧ Ext w w' := sizeOf_sw _ _ h w

theorem nwe_any (e f a b : Int) (hg : (finB e f a && finB e f b) = true) (w : World) : Calls Try.prog 65 #[fmt e f, .float .f32 (cw (unitsV e f a)), .float .f32 (cw (unitsV e f b))] w fun rv w' => rv = .returned (.tuple #[.float .f32 (nrW e f (decide (((unitsV e f a) + (unitsV e f b)) < 0)) (nsP e f ((unitsV e f a) + (unitsV e f b)))), .float .f32 (neW e f ((unitsV e f a) + (unitsV e f b)))]) ∧ Ext w w' := by
  obtain ⟨ha, hb2⟩ : finB e f a = true ∧ finB e f b = true := by simpa using hg
  have s0 := Lib.hid (fun w => size_cw (unitsV e f a) (ok_units ha) w)
  have s1 := Lib.hid (fun w => size_cw (unitsV e f b) (ok_units hb2) w)
  obtain ⟨o1, o2, o3⟩ := ord_zw (ok_units ha) (ok_units hb2)
  rcases Nat.lt_trichotomy (unitsV e f a).natAbs (unitsV e f b).natAbs with h | h | h
  · obtain ⟨d, d1, d2⟩ := err_bits hb2 ha (by omega)
    rw [Int.add_comm]
    exact nwe_lt e f _ _ _ _ _ d _ s0 s1 (o1 h) (Lib.hid (fun gl cap w c0 c1 hgl => near_two e f b a hb2 ha gl cap w c0 c1 hgl)) d1 d2 w
  · obtain ⟨d, d1, d2⟩ := err_bits ha hb2 (by omega)
    exact nwe_ge e f _ _ _ _ _ d _ s0 s1 (Or.inr (o2 h)) (Lib.hid (fun gl cap w c0 c1 hgl => near_two e f a b ha hb2 gl cap w c0 c1 hgl)) d1 d2 w
  · obtain ⟨d, d1, d2⟩ := err_bits ha hb2 (by omega)
    exact nwe_ge e f _ _ _ _ _ d _ s0 s1 (Or.inl (o3 h)) (Lib.hid (fun gl cap w c0 c1 hgl => near_two e f a b ha hb2 gl cap w c0 c1 hgl)) d1 d2 w

theorem pt_two (e f a b : Int) (hg : (finB e f a && finB e f b) = true) (w : World) : Calls Try.prog 66 #[fmt e f, .float .f32 (nrW e f (decide (((unitsV e f a) + (unitsV e f b)) < 0)) (nsP e f ((unitsV e f a) + (unitsV e f b)))), .float .f32 (neW e f ((unitsV e f a) + (unitsV e f b)))] w fun rv w' => rv = .returned (.tuple #[.int .i64 (nsR e f ((unitsV e f a) + (unitsV e f b))), .int .i64 (erR e f ((unitsV e f a) + (unitsV e f b))), .bool (nsB e f ((unitsV e f a) + (unitsV e f b)))]) ∧ Ext w w' := by
  obtain ⟨ha, hb2⟩ : finB e f a = true ∧ finB e f b = true := by simpa using hg
  obtain ⟨hgg, _⟩ := fin_size ha
  have px := fun w => pv_ns e f ((unitsV e f a) + (unitsV e f b)) hgg w
  cases hB : nsB e f ((unitsV e f a) + (unitsV e f b))
  · have e1 : nsR e f ((unitsV e f a) + (unitsV e f b)) = 0 := by unfold nsR; rw [hB]; rfl
    have e2 : erR e f ((unitsV e f a) + (unitsV e f b)) = 0 := by unfold erR; rw [hB]; rfl
    rw [hB, e1] at px
    rw [e1, e2]
    exact patternsOfTwo_na e f _ _ (Lib.hid px) w
  · obtain ⟨o1, o2⟩ := two_err2 ha hb2 hB
    have py := fun w => pv_ns e f (erU e f ((unitsV e f a) + (unitsV e f b))) hgg w
    have e2 : erR e f ((unitsV e f a) + (unitsV e f b)) = nsV e f (erU e f ((unitsV e f a) + (unitsV e f b))) := by unfold erR; rw [hB]; rfl
    have e3 : nsR e f (erU e f ((unitsV e f a) + (unitsV e f b))) = nsV e f (erU e f ((unitsV e f a) + (unitsV e f b))) := by unfold nsR; rw [o1]; rfl
    have e4 : neW e f ((unitsV e f a) + (unitsV e f b)) = cw (erU e f ((unitsV e f a) + (unitsV e f b))) := if_pos hB
    rw [nr_cw hgg o1, o2, o1, e3] at py
    rw [hB] at px
    rw [e2, e4]
    exact patternsOfTwo_yes e f _ _ _ _ (Lib.hid px) (Lib.hid py) w

theorem iTwoSum_no (e f a b : Int) (hg : (finB e f a && finB e f b) = false) (w : World) : Calls Try.prog 18 #[fmt e f, .int .i64 a, .int .i64 b] w fun rv w' => rv = .returned (.tuple #[.int .i64 0, .int .i64 0, .bool false]) ∧ Ext w w' := by
  go_enter Try.func18, Try.ntmps18
  go_wp2_with (go_at_call 61; (with_reducible refine (valuesOf2_no e f a b (w.heap.size + 1) hg _ (by first | with_reducible assumption | (simp; done) | (simp [go_sem]; done) | (simp [go_sem, *]; done)) (by first | with_reducible assumption | (simp; done) | (simp [go_sem]; done) | (simp [go_sem, *]; done)) (by simp; try omega)).mono ?_); rintro rv w1 ⟨rfl, hb⟩; have hx : Ext w w1 := Ext.trans (by repeat (first | exact Ext.refl _ | with_reducible assumption | apply Ext.alloc | apply Ext.drew | apply Ext.drewN | (refine Ext.setRow ?_ (by first | (simp; done) | (simp; omega) | omega) _) | (refine Ext.setCell ?_ (by first | (simp; done) | (simp; omega) | omega) _) | (refine Ext.trans ?_ (by with_reducible assumption)))) hb; clear hb)
  go_ret3
  exact ⟨rfl, hx⟩

set_option maxHeartbeats 1600000 in
theorem iTwoSum_yes (e f a b : Int) (hg : (finB e f a && finB e f b) = true) (w : World) : Calls Try.prog 18 #[fmt e f, .int .i64 a, .int .i64 b] w fun rv w' => rv = .returned (.tuple #[.int .i64 (nsR e f ((unitsV e f a) + (unitsV e f b))), .int .i64 (erR e f ((unitsV e f a) + (unitsV e f b))), .bool (nsB e f ((unitsV e f a) + (unitsV e f b)))]) ∧ Ext w w' := by
  obtain ⟨ha, hb2⟩ : finB e f a = true ∧ finB e f b = true := by simpa using hg
  obtain ⟨hgg, _⟩ := fin_size ha
  have hap := (fin_pat ha).1
  have hbp := (fin_pat hb2).1
  obtain ⟨sm1, sm2, sm3, sm4, sm5, sm6⟩ := ns_small ha hb2
  have NWA := Lib.hid (fun w => nwe_any e f a b hg w)
  have PTA := Lib.hid (fun w => pt_two e f a b hg w)
  generalize nrW e f (decide (((unitsV e f a) + (unitsV e f b)) < 0)) (nsP e f ((unitsV e f a) + (unitsV e f b))) = x9 at *
  generalize neW e f ((unitsV e f a) + (unitsV e f b)) = x8 at *
  clear sm1 sm2 sm3 sm4 sm5 sm6
  go_enter Try.func18, Try.ntmps18
  go_wp2_with (go_at_call 61; (with_reducible refine (valuesOf2 e f a b (w.heap.size + 1) ha hb2 _ (by first | with_reducible assumption | (simp; done) | (simp [go_sem]; done) | (simp [go_sem, *]; done)) (by first | with_reducible assumption | (simp; done) | (simp [go_sem]; done) | (simp [go_sem, *]; done)) (by simp; try omega)).mono ?_); rintro rv w1 ⟨gl, cap, rfl, q1, q2, c0, c1, hb⟩; rw [int_cw] at c0 c1; have c0 := c0; have c1 := c1; have ns : w.heap.size < w1.heap.size := hb.lt (by first | (simp; done) | (simp; omega)); have g0 : w1.cell? ⟨w.heap.size, 0, none⟩ = some (.int .i64 e) := (hb.cells _ _ (by first | (simp; done) | (simp; omega))).trans (by first | (simp; done) | (simp [go_sem, *]; done)); have g1 : w1.cell? ⟨w.heap.size, 1, none⟩ = some (.int .i64 f) := (hb.cells _ _ (by first | (simp; done) | (simp; omega))).trans (by first | (simp; done) | (simp [go_sem, *]; done)); have hx : Ext w w1 := Ext.trans (by repeat (first | exact Ext.refl _ | with_reducible assumption | apply Ext.alloc | apply Ext.drew | apply Ext.drewN | (refine Ext.setRow ?_ (by first | (simp; done) | (simp; omega) | omega) _) | (refine Ext.setCell ?_ (by first | (simp; done) | (simp; omega) | omega) _) | (refine Ext.trans ?_ (by with_reducible assumption)))) hb; clear hb)
  have hs : max w.heap.size gl < w1.heap.size := by omega
  try (go_region_held3 (fun w' => w'.cell? ⟨w.heap.size, 0, none⟩ = some (.int .i64 e) ∧ w'.cell? ⟨w.heap.size, 1, none⟩ = some (.int .i64 f) ∧ w'.cell? ⟨gl, 0, none⟩ = some (.float .f32 (cw (unitsV e f a))) ∧ w'.cell? ⟨gl, 1, none⟩ = some (.float .f32 (cw (unitsV e f b))) ∧ max w.heap.size gl < w'.heap.size) ((refine ⟨?_, ?_, ?_, ?_, ?_⟩ <;> first | with_reducible assumption | ((repeat first | rw [cell_set_far _ _ _ _ _ _ (by omega)] | rw [cell_alloc_before _ _ _ _ (by omega)] | rw [cell_alloc_drew _ _ _ _ (by omega)] | rw [cell_drew]); with_reducible assumption) | ((rw [cell_setRow_far _ _ _ _ _ (by omega)]); with_reducible assumption) | ((rw [setRow_size]); with_reducible assumption) | (simp; done) | (simp [World.setCell]; first | done | omega) | (simp [go_sem, World.cell?_alloc_past, World.cell?_setCell_far, *]; done))) ((first | (go_at_call 65; refine (NWA.out _).mono ?_; rintro rv w1 ⟨rfl, hb⟩; have ns : max w.heap.size gl < w1.heap.size := hb.lt (by first | with_reducible assumption | omega | (simp; done) | (simp; omega)); have n0 : w1.cell? ⟨w.heap.size, 0, none⟩ = some (.int .i64 e) := (hb.cells _ _ (by first | with_reducible assumption | omega | (simp; done) | (simp; omega))).trans (by first | with_reducible assumption | (simp; done) | (simp; with_reducible assumption) | (rw [cell_alloc_before _ _ _ _ (by omega)]; with_reducible assumption) | (simp [go_sem, *]; done)); have n1 : w1.cell? ⟨w.heap.size, 1, none⟩ = some (.int .i64 f) := (hb.cells _ _ (by first | with_reducible assumption | omega | (simp; done) | (simp; omega))).trans (by first | with_reducible assumption | (simp; done) | (simp; with_reducible assumption) | (rw [cell_alloc_before _ _ _ _ (by omega)]; with_reducible assumption) | (simp [go_sem, *]; done)); have n2 : w1.cell? ⟨gl, 0, none⟩ = some (.float .f32 (cw (unitsV e f a))) := (hb.cells _ _ (by first | with_reducible assumption | omega | (simp; done) | (simp; omega))).trans (by first | with_reducible assumption | (simp; done) | (simp; with_reducible assumption) | (rw [cell_alloc_before _ _ _ _ (by omega)]; with_reducible assumption) | (simp [go_sem, *]; done)); have n3 : w1.cell? ⟨gl, 1, none⟩ = some (.float .f32 (cw (unitsV e f b))) := (hb.cells _ _ (by first | with_reducible assumption | omega | (simp; done) | (simp; omega))).trans (by first | with_reducible assumption | (simp; done) | (simp; with_reducible assumption) | (rw [cell_alloc_before _ _ _ _ (by omega)]; with_reducible assumption) | (simp [go_sem, *]; done)); (first | (have nx := Ext.trans hx hb; clear hx) | (have nx := Ext.trans (hx.alloc _) hb; clear hx) | (have nx := Ext.trans hx.drew hb; clear hx) | have nx := hb); clear hb; try clear hs; try clear g0; try clear g1; try clear g2; try clear g3; have hx := nx; clear nx; have hs := ns; clear ns; have g0 := n0; clear n0; have g1 := n1; clear n1; have g2 := n2; clear n2; have g3 := n3; clear n3))))
  go_wp2_with (first | (go_at_call 65; refine (NWA.out _).mono ?_; rintro rv w1 ⟨rfl, hb⟩; have ns : max w.heap.size gl < w1.heap.size := hb.lt (by first | with_reducible assumption | omega | (simp; done) | (simp; omega)); have n0 : w1.cell? ⟨w.heap.size, 0, none⟩ = some (.int .i64 e) := (hb.cells _ _ (by first | with_reducible assumption | omega | (simp; done) | (simp; omega))).trans (by first | with_reducible assumption | (simp; done) | (simp; with_reducible assumption) | (rw [cell_alloc_before _ _ _ _ (by omega)]; with_reducible assumption) | (simp [go_sem, *]; done)); have n1 : w1.cell? ⟨w.heap.size, 1, none⟩ = some (.int .i64 f) := (hb.cells _ _ (by first | with_reducible assumption | omega | (simp; done) | (simp; omega))).trans (by first | with_reducible assumption | (simp; done) | (simp; with_reducible assumption) | (rw [cell_alloc_before _ _ _ _ (by omega)]; with_reducible assumption) | (simp [go_sem, *]; done)); have n2 : w1.cell? ⟨gl, 0, none⟩ = some (.float .f32 (cw (unitsV e f a))) := (hb.cells _ _ (by first | with_reducible assumption | omega | (simp; done) | (simp; omega))).trans (by first | with_reducible assumption | (simp; done) | (simp; with_reducible assumption) | (rw [cell_alloc_before _ _ _ _ (by omega)]; with_reducible assumption) | (simp [go_sem, *]; done)); have n3 : w1.cell? ⟨gl, 1, none⟩ = some (.float .f32 (cw (unitsV e f b))) := (hb.cells _ _ (by first | with_reducible assumption | omega | (simp; done) | (simp; omega))).trans (by first | with_reducible assumption | (simp; done) | (simp; with_reducible assumption) | (rw [cell_alloc_before _ _ _ _ (by omega)]; with_reducible assumption) | (simp [go_sem, *]; done)); (first | (have nx := Ext.trans hx hb; clear hx) | (have nx := Ext.trans (hx.alloc _) hb; clear hx) | (have nx := Ext.trans hx.drew hb; clear hx) | have nx := hb); clear hb; try clear hs; try clear g0; try clear g1; try clear g2; try clear g3; have hx := nx; clear nx; have hs := ns; clear ns; have g0 := n0; clear n0; have g1 := n1; clear n1; have g2 := n2; clear n2; have g3 := n3; clear n3) | (go_at_call 66; refine (PTA.out _).mono ?_; rintro rv w1 ⟨rfl, hb⟩; have ns : max w.heap.size gl < w1.heap.size := hb.lt (by first | with_reducible assumption | omega | (simp; done) | (simp; omega)); have n0 : w1.cell? ⟨w.heap.size, 0, none⟩ = some (.int .i64 e) := (hb.cells _ _ (by first | with_reducible assumption | omega | (simp; done) | (simp; omega))).trans (by first | with_reducible assumption | (simp; done) | (simp; with_reducible assumption) | (rw [cell_alloc_before _ _ _ _ (by omega)]; with_reducible assumption) | (simp [go_sem, *]; done)); have n1 : w1.cell? ⟨w.heap.size, 1, none⟩ = some (.int .i64 f) := (hb.cells _ _ (by first | with_reducible assumption | omega | (simp; done) | (simp; omega))).trans (by first | with_reducible assumption | (simp; done) | (simp; with_reducible assumption) | (rw [cell_alloc_before _ _ _ _ (by omega)]; with_reducible assumption) | (simp [go_sem, *]; done)); have n2 : w1.cell? ⟨gl, 0, none⟩ = some (.float .f32 (cw (unitsV e f a))) := (hb.cells _ _ (by first | with_reducible assumption | omega | (simp; done) | (simp; omega))).trans (by first | with_reducible assumption | (simp; done) | (simp; with_reducible assumption) | (rw [cell_alloc_before _ _ _ _ (by omega)]; with_reducible assumption) | (simp [go_sem, *]; done)); have n3 : w1.cell? ⟨gl, 1, none⟩ = some (.float .f32 (cw (unitsV e f b))) := (hb.cells _ _ (by first | with_reducible assumption | omega | (simp; done) | (simp; omega))).trans (by first | with_reducible assumption | (simp; done) | (simp; with_reducible assumption) | (rw [cell_alloc_before _ _ _ _ (by omega)]; with_reducible assumption) | (simp [go_sem, *]; done)); (first | (have nx := Ext.trans hx hb; clear hx) | (have nx := Ext.trans (hx.alloc _) hb; clear hx) | (have nx := Ext.trans hx.drew hb; clear hx) | have nx := hb); clear hb; try clear hs; try clear g0; try clear g1; try clear g2; try clear g3; have hx := nx; clear nx; have hs := ns; clear ns; have g0 := n0; clear n0; have g1 := n1; clear n1; have g2 := n2; clear n2; have g3 := n3; clear n3))
  try (go_region_held3 (fun w' => w'.cell? ⟨w.heap.size, 0, none⟩ = some (.int .i64 e) ∧ w'.cell? ⟨w.heap.size, 1, none⟩ = some (.int .i64 f) ∧ w'.cell? ⟨gl, 0, none⟩ = some (.float .f32 (cw (unitsV e f a))) ∧ w'.cell? ⟨gl, 1, none⟩ = some (.float .f32 (cw (unitsV e f b))) ∧ max w.heap.size gl < w'.heap.size) ((refine ⟨?_, ?_, ?_, ?_, ?_⟩ <;> first | with_reducible assumption | ((repeat first | rw [cell_set_far _ _ _ _ _ _ (by omega)] | rw [cell_alloc_before _ _ _ _ (by omega)] | rw [cell_alloc_drew _ _ _ _ (by omega)] | rw [cell_drew]); with_reducible assumption) | ((rw [cell_setRow_far _ _ _ _ _ (by omega)]); with_reducible assumption) | ((rw [setRow_size]); with_reducible assumption) | (simp; done) | (simp [World.setCell]; first | done | omega) | (simp [go_sem, World.cell?_alloc_past, World.cell?_setCell_far, *]; done))) ((first | (go_at_call 66; refine (PTA.out _).mono ?_; rintro rv w1 ⟨rfl, hb⟩; have ns : max w.heap.size gl < w1.heap.size := hb.lt (by first | with_reducible assumption | omega | (simp; done) | (simp; omega)); have n0 : w1.cell? ⟨w.heap.size, 0, none⟩ = some (.int .i64 e) := (hb.cells _ _ (by first | with_reducible assumption | omega | (simp; done) | (simp; omega))).trans (by first | with_reducible assumption | (simp; done) | (simp; with_reducible assumption) | (rw [cell_alloc_before _ _ _ _ (by omega)]; with_reducible assumption) | (simp [go_sem, *]; done)); have n1 : w1.cell? ⟨w.heap.size, 1, none⟩ = some (.int .i64 f) := (hb.cells _ _ (by first | with_reducible assumption | omega | (simp; done) | (simp; omega))).trans (by first | with_reducible assumption | (simp; done) | (simp; with_reducible assumption) | (rw [cell_alloc_before _ _ _ _ (by omega)]; with_reducible assumption) | (simp [go_sem, *]; done)); have n2 : w1.cell? ⟨gl, 0, none⟩ = some (.float .f32 (cw (unitsV e f a))) := (hb.cells _ _ (by first | with_reducible assumption | omega | (simp; done) | (simp; omega))).trans (by first | with_reducible assumption | (simp; done) | (simp; with_reducible assumption) | (rw [cell_alloc_before _ _ _ _ (by omega)]; with_reducible assumption) | (simp [go_sem, *]; done)); have n3 : w1.cell? ⟨gl, 1, none⟩ = some (.float .f32 (cw (unitsV e f b))) := (hb.cells _ _ (by first | with_reducible assumption | omega | (simp; done) | (simp; omega))).trans (by first | with_reducible assumption | (simp; done) | (simp; with_reducible assumption) | (rw [cell_alloc_before _ _ _ _ (by omega)]; with_reducible assumption) | (simp [go_sem, *]; done)); (first | (have nx := Ext.trans hx hb; clear hx) | (have nx := Ext.trans (hx.alloc _) hb; clear hx) | (have nx := Ext.trans hx.drew hb; clear hx) | have nx := hb); clear hb; try clear hs; try clear g0; try clear g1; try clear g2; try clear g3; have hx := nx; clear nx; have hs := ns; clear ns; have g0 := n0; clear n0; have g1 := n1; clear n1; have g2 := n2; clear n2; have g3 := n3; clear n3))))
  try go_wp2_with fail
  go_ret3
  exact ⟨rfl, (by repeat (first | exact Ext.refl _ | with_reducible assumption | apply Ext.alloc | apply Ext.drew | apply Ext.drewN | (refine Ext.setRow ?_ (by first | (simp; done) | (simp; omega) | omega) _) | (refine Ext.setCell ?_ (by first | (simp; done) | (simp; omega) | omega) _) | (refine Ext.trans ?_ (by with_reducible assumption))))⟩
end Go.Proofs.Ytcbkhlaiefiieac

