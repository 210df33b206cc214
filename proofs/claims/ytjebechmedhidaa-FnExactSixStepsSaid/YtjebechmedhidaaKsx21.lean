/-
  Contracts of the functions that the laws reach, and the plain facts that they rest on, each under the conditions that its line names; part 21.
-/
import Derived.Test.YtjebechmedhidaaKsx1
import Derived.Test.YtjebechmedhidaaKsx2
import Derived.Test.YtjebechmedhidaaKsx3
import Derived.Test.YtjebechmedhidaaKsx4
import Derived.Test.YtjebechmedhidaaKsx5
import Derived.Test.YtjebechmedhidaaKsx6
import Derived.Test.YtjebechmedhidaaKsx7
import Derived.Test.YtjebechmedhidaaKsx8
import Derived.Test.YtjebechmedhidaaKsx9
import Derived.Test.YtjebechmedhidaaKsx10
import Derived.Test.YtjebechmedhidaaKsx11
import Derived.Test.YtjebechmedhidaaKsx12
import Derived.Test.YtjebechmedhidaaKsx13
import Derived.Test.YtjebechmedhidaaKsx14
import Derived.Test.YtjebechmedhidaaKsx15
import Derived.Test.YtjebechmedhidaaKsx16
import Derived.Test.YtjebechmedhidaaKsx17
import Derived.Test.YtjebechmedhidaaKsx18
import Derived.Test.YtjebechmedhidaaKsx19
import Derived.Test.YtjebechmedhidaaKsx20
import Derived.Test.YtjebechmedhidaaRows
import Derived.WalkKit
import Derived.LoopTactic
import Derived.LoopN
import Derived.Laws.OwnMore
import Derived.OwnWalk
import Derived.Deep.AppendLies
import Derived.Laws.Bits64b
import Derived.WalkSpells
import Derived.WalkLawsBesides
import Derived.StillTactics
import Derived.Laws.Pointers
import Derived.Deep.RegionHeld3
import Derived.Deep.QuietTactic
import Derived.BigQuiet
import Derived.Outline
import Derived.Lib.Hide
import Derived.RowKit3
import Derived.Carry
import Derived.IntWalk
import Derived.Lib.BitFns
import Derived.Lib.TrailingZeros
namespace Go.Proofs.Ytjebechmedhidaa
open Go Go.RowKit
set_option linter.unusedSimpArgs false
set_option linter.unusedVariables false
set_option maxRecDepth 100000

theorem own_ext {w w' : World} {base : Nat} {e : TypeId} {size : Nat} {v : Value} {n : Nat} {xs : List Value} (h : w.ownsRow base e size v n xs) (hb : Ext w w') : w'.ownsRow base e size v n xs :=
  h.kept (row := none) ⟨hb.os, hb.tape, hb.output, hb.size, fun k hk _ => hb.block k hk⟩ (by by_cases h : v.ownBlock = none; exact Or.inl h; exact Or.inr h)

theorem ext_grown {w W w' : World} {row : Option Nat} (hx : Ext w W) (hg : W.grownBy w' row) (hr : ∀ k, row = some k → w.heap.size ≤ k) : Ext w w' :=
  ⟨hg.os.trans hx.os, hg.tape.trans hx.tape, hg.output.trans hx.output, Nat.le_trans hx.size hg.size, fun k hk => (hg.block k (Nat.lt_of_lt_of_le hk hx.size) (fun h => by have := hr k h.symm; omega)).trans (hx.block k hk)⟩

set_option maxHeartbeats 3200000 in
theorem valuesOf2_ (e f a b : Int) (g : Nat) (hg1 : goodB e f = true) (ha : finB e f a = true) (hb2 : finB e f b = true) (w : World) (ca : w.cell? ⟨g, 0, none⟩ = some (.int .i64 a)) (cb : w.cell? ⟨g, 1, none⟩ = some (.int .i64 b)) (hg : g < w.heap.size) :
    Calls Try.prog 57 #[fmt e f, .slice (some ⟨g, 0, none⟩) 2 2] w fun rv w' => ∃ v B, rv = .returned (.tuple #[v, .bool true]) ∧ w.heap.size ≤ B ∧ w'.ownsRow B 69 1 v 2 [.float .f32 (floatOfInt .f32 (unitsV e f a)), .float .f32 (floatOfInt .f32 (unitsV e f b))] ∧ Ext w w' := by
  obtain ⟨i, hi, hz, hsz, hby⟩ : ∃ i, Try.prog.info? 69 = some i ∧ i.zero = some (Value.float .f32 0) ∧ i.size = 1 ∧ i.bytes = 4 := by
    cases h : Try.prog.info? 69 with
    | none => exact absurd h (by have : (Try.prog.info? 69).isSome = true := by kernel_rfl
                                 intro h2; rw [h2] at this; cases this)
    | some i =>
      refine ⟨i, rfl, ?_, ?_, ?_⟩
      · have : (Try.prog.info? 69).map (·.zero) = some (some (Value.float .f32 0)) := by kernel_rfl
        rw [h] at this; exact Option.some.inj this
      · have : (Try.prog.info? 69).map (·.size) = some 1 := by kernel_rfl
        rw [h] at this; exact Option.some.inj this
      · have : (Try.prog.info? 69).map (·.bytes) = some 4 := by kernel_rfl
        rw [h] at this; exact Option.some.inj this
  have HI := Lib.hid hi; have HZ := Lib.hid hz; have HSZ := Lib.hid hsz; have HBY := Lib.hid hby; clear hi hz hsz hby
  go_enter Try.func57, Try.ntmps57
  go_wp2_with (go_at_call 51; refine (isFormat_any e f _).mono ?_; rintro rv w0 ⟨rfl, hb⟩; have ns : max w.heap.size g < w0.heap.size := hb.ltK; have n0 : w0.cell? ⟨w.heap.size, 0, none⟩ = some (.int .i64 e) := hb.cellK; have n1 : w0.cell? ⟨w.heap.size, 1, none⟩ = some (.int .i64 f) := hb.cellK; have n2 : w0.cell? ⟨g, 0, none⟩ = some (.int .i64 a) := hb.cellK; have n3 : w0.cell? ⟨g, 1, none⟩ = some (.int .i64 b) := hb.cellK; (first | (have nx := Ext.trans hx hb; clear hx) | (have nx := Ext.trans (hx.alloc _) hb; clear hx) | (have nx := Ext.trans hx.drew hb; clear hx) | have nx := hb); clear hb; try clear hs; try clear g0; try clear g1; try clear g2; try clear g3; have hx := nx; clear nx; have hs := ns; clear ns; have g0 := n0; clear n0; have g1 := n1; clear n1; have g2 := n2; clear n2; have g3 := n3; clear n3)
  have own0 := (World.ownsRow_lit (base := w0.heap.size) (e := 69) (size := 1) w0 #[] 0 (by simp) (by decide) rfl)
  have hs0 := ns
  have hgA : g < w0.heap.size := by omega
  have hwA : w.heap.size < w0.heap.size := by omega
  have k0 := (cell_alloc_before w0 (.cells #[] 69) _ 0 hwA).trans n0
  have k1 := (cell_alloc_before w0 (.cells #[] 69) _ 1 hwA).trans n1
  have k2 := (cell_alloc_before w0 (.cells #[] 69) _ 0 hgA).trans n2
  have k3 := (cell_alloc_before w0 (.cells #[] 69) _ 1 hgA).trans n3
  have OWN := Lib.hid own0; clear own0
  refine wp_loop_rounds 3 ?_
  rw [rounds_succ]
  go_wp2_with (first | (go_at_call 111; (with_reducible refine (iUnitsOf_yes e f a ha _).mono ?_); rintro rv w1 ⟨rfl, hb⟩; (first | (have OWN9 := Lib.hid (own_ext OWN.out hb); clear OWN; have OWN := OWN9; clear OWN9) | (have OWN9 := Lib.hid (own_ext (own_ext OWN.out (Ext.new _ _)) hb); clear OWN; have OWN := OWN9; clear OWN9)); have ns : w0.heap.size < w1.heap.size := hb.ltK; have n0 : w1.cell? ⟨w.heap.size, 0, none⟩ = some (.int .i64 e) := hb.cellK; have n1 : w1.cell? ⟨w.heap.size, 1, none⟩ = some (.int .i64 f) := hb.cellK; have n2 : w1.cell? ⟨g, 0, none⟩ = some (.int .i64 a) := hb.cellK; have n3 : w1.cell? ⟨g, 1, none⟩ = some (.int .i64 b) := hb.cellK; (first | (have nx := Ext.trans hx hb; clear hx) | (have nx := Ext.trans (hx.alloc _) hb; clear hx) | (have nx := Ext.trans hx.drew hb; clear hx) | have nx := hb); clear hb; try clear hs; try clear g0; try clear g1; try clear g2; try clear g3; have hx := nx; clear nx; have hs := ns; clear ns; have g0 := n0; clear n0; have g1 := n1; clear n1; have g2 := n2; clear n2; have g3 := n3; clear n3) | (at_builtin; (refine wpList_append_own _ rfl (.tmp 34) (.tmp 37) 66 rfl (w0.heap.size) 69 i _ 1 4 Try.underlying66 HI.out HZ.out HSZ.out HBY.out rfl (by decide) (.slice (some ⟨w0.heap.size, 0, none⟩) 0 0) 0 [] rfl (own_ext OWN.out (Ext.new _ _)) _ 1 1 [(.float .f32 (floatOfInt .f32 (unitsV e f a)))] rfl rfl (fun j u hj => by cases j with | zero => (simp at hj; subst hj; simp [go_sem, Addr.add]) | succ j => simp at hj) (by simp [Value.oneCell']) (by simp [maxLen]) (by omega) (by simp; omega) ?_); intro v9 w9 OWN8 hgr _; have hne : ∀ k, k < w0.heap.size → some k ≠ Value.ownBlock (.slice (some ⟨w0.heap.size, 0, none⟩) 0 0) := fun k hk h => (by have := (World.ownsRow.lt OWN.out _ h.symm).1; omega); have c0 : w9.cell? ⟨w.heap.size, 0, none⟩ = some (.int .i64 e) := hgr.cell ((cell_alloc_before _ _ (w.heap.size) 0 (by omega)).trans (by with_reducible assumption)) (hne (w.heap.size) (by omega)); have c1 : w9.cell? ⟨w.heap.size, 1, none⟩ = some (.int .i64 f) := hgr.cell ((cell_alloc_before _ _ (w.heap.size) 1 (by omega)).trans (by with_reducible assumption)) (hne (w.heap.size) (by omega)); have c2 : w9.cell? ⟨g, 0, none⟩ = some (.int .i64 a) := hgr.cell ((cell_alloc_before _ _ (g) 0 (by omega)).trans (by with_reducible assumption)) (hne (g) (by omega)); have c3 : w9.cell? ⟨g, 1, none⟩ = some (.int .i64 b) := hgr.cell ((cell_alloc_before _ _ (g) 1 (by omega)).trans (by with_reducible assumption)) (hne (g) (by omega)); have sz : w1.heap.size + 1 ≤ w9.heap.size := (by have h := hgr.size; rwa [World.size_alloc] at h); have hs9 : w0.heap.size < w9.heap.size := (by omega); have hx9 : Ext w w9 := ext_grown Ext.auK hgr (fun k hk => by have := (World.ownsRow.lt OWN.out k hk).1; omega); have OWN7 : RowKit.Hid (w9.ownsRow w0.heap.size 69 1 v9 1 [(.float .f32 (floatOfInt .f32 (unitsV e f a)))]) := OWN8; clear OWN OWN8 hne hgr; have OWN := OWN7; clear OWN7))
  rw [rounds_succ]
  go_wp2_with (first | (go_at_call 111; (with_reducible refine (iUnitsOf_yes e f b hb2 _).mono ?_); rintro rv w1 ⟨rfl, hb⟩; (first | (have OWN9 := Lib.hid (own_ext OWN.out hb); clear OWN; have OWN := OWN9; clear OWN9) | (have OWN9 := Lib.hid (own_ext (own_ext OWN.out (Ext.new _ _)) hb); clear OWN; have OWN := OWN9; clear OWN9)); have ns : w0.heap.size < w1.heap.size := hb.ltK; have n0 : w1.cell? ⟨w.heap.size, 0, none⟩ = some (.int .i64 e) := hb.cellK; have n1 : w1.cell? ⟨w.heap.size, 1, none⟩ = some (.int .i64 f) := hb.cellK; have n2 : w1.cell? ⟨g, 0, none⟩ = some (.int .i64 a) := hb.cellK; have n3 : w1.cell? ⟨g, 1, none⟩ = some (.int .i64 b) := hb.cellK; (first | (have nx := Ext.trans hx hb; clear hx) | (have nx := Ext.trans (hx.alloc _) hb; clear hx) | (have nx := Ext.trans hx.drew hb; clear hx) | have nx := hb); clear hb; try clear hs; try clear g0; try clear g1; try clear g2; try clear g3; have hx := nx; clear nx; have hs := ns; clear ns; have g0 := n0; clear n0; have g1 := n1; clear n1; have g2 := n2; clear n2; have g3 := n3; clear n3) | (at_builtin; (refine wpList_append_own _ rfl (.tmp 34) (.tmp 37) 66 rfl (w0.heap.size) 69 i _ 1 4 Try.underlying66 HI.out HZ.out HSZ.out HBY.out rfl (by decide) v9 1 [(.float .f32 (floatOfInt .f32 (unitsV e f a)))] rfl (own_ext OWN.out (Ext.new _ _)) _ 1 1 [(.float .f32 (floatOfInt .f32 (unitsV e f b)))] rfl rfl (fun j u hj => by cases j with | zero => (simp at hj; subst hj; simp [go_sem, Addr.add]) | succ j => simp at hj) (by simp [Value.oneCell']) (by simp [maxLen]) (by omega) (by simp; omega) ?_); intro v8 w8 OWN8 hgr _; have hne : ∀ k, k < w0.heap.size → some k ≠ Value.ownBlock v9 := fun k hk h => (by have := (World.ownsRow.lt OWN.out _ h.symm).1; omega); have c0 : w8.cell? ⟨w.heap.size, 0, none⟩ = some (.int .i64 e) := hgr.cell ((cell_alloc_before _ _ (w.heap.size) 0 (by omega)).trans (by with_reducible assumption)) (hne (w.heap.size) (by omega)); have c1 : w8.cell? ⟨w.heap.size, 1, none⟩ = some (.int .i64 f) := hgr.cell ((cell_alloc_before _ _ (w.heap.size) 1 (by omega)).trans (by with_reducible assumption)) (hne (w.heap.size) (by omega)); have c2 : w8.cell? ⟨g, 0, none⟩ = some (.int .i64 a) := hgr.cell ((cell_alloc_before _ _ (g) 0 (by omega)).trans (by with_reducible assumption)) (hne (g) (by omega)); have c3 : w8.cell? ⟨g, 1, none⟩ = some (.int .i64 b) := hgr.cell ((cell_alloc_before _ _ (g) 1 (by omega)).trans (by with_reducible assumption)) (hne (g) (by omega)); have sz : w1.heap.size + 1 ≤ w8.heap.size := (by have h := hgr.size; rwa [World.size_alloc] at h); have hs9 : w0.heap.size < w8.heap.size := (by omega); have hx9 : Ext w w8 := ext_grown Ext.auK hgr (fun k hk => by have := (World.ownsRow.lt OWN.out k hk).1; omega); have OWN7 : RowKit.Hid (w8.ownsRow w0.heap.size 69 1 v8 2 [(.float .f32 (floatOfInt .f32 (unitsV e f a))), (.float .f32 (floatOfInt .f32 (unitsV e f b)))]) := OWN8; clear OWN OWN8 hne hgr; have OWN := OWN7; clear OWN7))
  rw [rounds_succ]
  go_wp2_with fail
  go_ret2
  exact ⟨v8, _, rfl, by omega, OWN.out, Ext.auK⟩

/-- What the values of two patterns are. -/
def VO2 (e f a b : Int) (w : World) (rv : Ending) (w' : World) : Prop := ∃ gl cap, rv = .returned (.tuple #[.slice (some ⟨gl, 0, none⟩) 2 cap, .bool true]) ∧ w.heap.size ≤ gl ∧ gl < w'.heap.size ∧ w'.cell? ⟨gl, 0, none⟩ = some (.float .f32 (floatOfInt .f32 (unitsV e f a))) ∧ w'.cell? ⟨gl, 1, none⟩ = some (.float .f32 (floatOfInt .f32 (unitsV e f b))) ∧ Ext w w'

theorem valuesOf2 (e f a b : Int) (g : Nat) (ha : finB e f a = true) (hb2 : finB e f b = true) (w : World) (ca : w.cell? ⟨g, 0, none⟩ = some (.int .i64 a)) (cb : w.cell? ⟨g, 1, none⟩ = some (.int .i64 b)) (hg : g < w.heap.size) :
    Calls Try.prog 57 #[fmt e f, .slice (some ⟨g, 0, none⟩) 2 2] w (VO2 e f a b w) := by
  refine (valuesOf2_ e f a b g (pat_iff.1 (fin_pat ha).1).1 ha hb2 w ca cb hg).mono ?_
  rintro rv w' ⟨v, B, rfl, hB, how, hb⟩
  obtain ⟨gl, cap, rfl, hg1, hg2⟩ := how.form (by omega)
  have c0 := how.cellAt 0 (by omega)
  have c1 := how.cellAt 1 (by omega)
  simp only [List.getElem?_cons_zero, List.getElem?_cons_succ] at c0 c1
  exact ⟨gl, cap, rfl, by omega, by omega, c0, c1, hb⟩

set_option maxHeartbeats 3200000 in
theorem valuesOf2_na (e f a b : Int) (g : Nat) (hg1 : goodB e f = true) (hn : finB e f a = false) (w : World) (ca : w.cell? ⟨g, 0, none⟩ = some (.int .i64 a)) (cb : w.cell? ⟨g, 1, none⟩ = some (.int .i64 b)) (hg : g < w.heap.size) :
    Calls Try.prog 57 #[fmt e f, .slice (some ⟨g, 0, none⟩) 2 2] w fun rv w' => rv = .returned (.tuple #[.slice none 0 0, .bool false]) ∧ Ext w w' := by
  obtain ⟨i, hi, hz, hsz, hby⟩ : ∃ i, Try.prog.info? 69 = some i ∧ i.zero = some (Value.float .f32 0) ∧ i.size = 1 ∧ i.bytes = 4 := by
    cases h : Try.prog.info? 69 with
    | none => exact absurd h (by have : (Try.prog.info? 69).isSome = true := by kernel_rfl
                                 intro h2; rw [h2] at this; cases this)
    | some i =>
      refine ⟨i, rfl, ?_, ?_, ?_⟩
      · have : (Try.prog.info? 69).map (·.zero) = some (some (Value.float .f32 0)) := by kernel_rfl
        rw [h] at this; exact Option.some.inj this
      · have : (Try.prog.info? 69).map (·.size) = some 1 := by kernel_rfl
        rw [h] at this; exact Option.some.inj this
      · have : (Try.prog.info? 69).map (·.bytes) = some 4 := by kernel_rfl
        rw [h] at this; exact Option.some.inj this
  have HI := Lib.hid hi; have HZ := Lib.hid hz; have HSZ := Lib.hid hsz; have HBY := Lib.hid hby; clear hi hz hsz hby
  go_enter Try.func57, Try.ntmps57
  go_wp2_with (go_at_call 51; refine (isFormat_any e f _).mono ?_; rintro rv w0 ⟨rfl, hb⟩; have ns : max w.heap.size g < w0.heap.size := hb.ltK; have n0 : w0.cell? ⟨w.heap.size, 0, none⟩ = some (.int .i64 e) := hb.cellK; have n1 : w0.cell? ⟨w.heap.size, 1, none⟩ = some (.int .i64 f) := hb.cellK; have n2 : w0.cell? ⟨g, 0, none⟩ = some (.int .i64 a) := hb.cellK; have n3 : w0.cell? ⟨g, 1, none⟩ = some (.int .i64 b) := hb.cellK; (first | (have nx := Ext.trans hx hb; clear hx) | (have nx := Ext.trans (hx.alloc _) hb; clear hx) | (have nx := Ext.trans hx.drew hb; clear hx) | have nx := hb); clear hb; try clear hs; try clear g0; try clear g1; try clear g2; try clear g3; have hx := nx; clear nx; have hs := ns; clear ns; have g0 := n0; clear n0; have g1 := n1; clear n1; have g2 := n2; clear n2; have g3 := n3; clear n3)
  have own0 := (World.ownsRow_lit (base := w0.heap.size) (e := 69) (size := 1) w0 #[] 0 (by simp) (by decide) rfl)
  have hs0 := ns
  have hgA : g < w0.heap.size := by omega
  have hwA : w.heap.size < w0.heap.size := by omega
  have k0 := (cell_alloc_before w0 (.cells #[] 69) _ 0 hwA).trans n0
  have k1 := (cell_alloc_before w0 (.cells #[] 69) _ 1 hwA).trans n1
  have k2 := (cell_alloc_before w0 (.cells #[] 69) _ 0 hgA).trans n2
  have k3 := (cell_alloc_before w0 (.cells #[] 69) _ 1 hgA).trans n3
  have OWN := Lib.hid own0; clear own0
  refine wp_loop_rounds 3 ?_
  rw [rounds_succ]
  go_wp2_with (first | (go_at_call 111; (with_reducible refine (iUnitsOf_no e f _ hn _).mono ?_); rintro rv w1 ⟨rfl, hb⟩; have ns : w0.heap.size < w1.heap.size := hb.ltK; have n0 : w1.cell? ⟨w.heap.size, 0, none⟩ = some (.int .i64 e) := hb.cellK; have n1 : w1.cell? ⟨w.heap.size, 1, none⟩ = some (.int .i64 f) := hb.cellK; have n2 : w1.cell? ⟨g, 0, none⟩ = some (.int .i64 a) := hb.cellK; have n3 : w1.cell? ⟨g, 1, none⟩ = some (.int .i64 b) := hb.cellK; (first | (have nx := Ext.trans hx hb; clear hx) | (have nx := Ext.trans (hx.alloc _) hb; clear hx) | (have nx := Ext.trans hx.drew hb; clear hx) | have nx := hb); clear hb; try clear hs; try clear g0; try clear g1; try clear g2; try clear g3; have hx := nx; clear nx; have hs := ns; clear ns; have g0 := n0; clear n0; have g1 := n1; clear n1; have g2 := n2; clear n2; have g3 := n3; clear n3))
  go_ret2
  exact ⟨rfl, Ext.auK⟩

set_option maxHeartbeats 3200000 in
theorem valuesOf2_nb (e f a b : Int) (g : Nat) (hg1 : goodB e f = true) (ha : finB e f a = true) (hn : finB e f b = false) (w : World) (ca : w.cell? ⟨g, 0, none⟩ = some (.int .i64 a)) (cb : w.cell? ⟨g, 1, none⟩ = some (.int .i64 b)) (hg : g < w.heap.size) :
    Calls Try.prog 57 #[fmt e f, .slice (some ⟨g, 0, none⟩) 2 2] w fun rv w' => rv = .returned (.tuple #[.slice none 0 0, .bool false]) ∧ Ext w w' := by
  obtain ⟨i, hi, hz, hsz, hby⟩ : ∃ i, Try.prog.info? 69 = some i ∧ i.zero = some (Value.float .f32 0) ∧ i.size = 1 ∧ i.bytes = 4 := by
    cases h : Try.prog.info? 69 with
    | none => exact absurd h (by have : (Try.prog.info? 69).isSome = true := by kernel_rfl
                                 intro h2; rw [h2] at this; cases this)
    | some i =>
      refine ⟨i, rfl, ?_, ?_, ?_⟩
      · have : (Try.prog.info? 69).map (·.zero) = some (some (Value.float .f32 0)) := by kernel_rfl
        rw [h] at this; exact Option.some.inj this
      · have : (Try.prog.info? 69).map (·.size) = some 1 := by kernel_rfl
        rw [h] at this; exact Option.some.inj this
      · have : (Try.prog.info? 69).map (·.bytes) = some 4 := by kernel_rfl
        rw [h] at this; exact Option.some.inj this
  have HI := Lib.hid hi; have HZ := Lib.hid hz; have HSZ := Lib.hid hsz; have HBY := Lib.hid hby; clear hi hz hsz hby
  go_enter Try.func57, Try.ntmps57
  go_wp2_with (go_at_call 51; refine (isFormat_any e f _).mono ?_; rintro rv w0 ⟨rfl, hb⟩; have ns : max w.heap.size g < w0.heap.size := hb.ltK; have n0 : w0.cell? ⟨w.heap.size, 0, none⟩ = some (.int .i64 e) := hb.cellK; have n1 : w0.cell? ⟨w.heap.size, 1, none⟩ = some (.int .i64 f) := hb.cellK; have n2 : w0.cell? ⟨g, 0, none⟩ = some (.int .i64 a) := hb.cellK; have n3 : w0.cell? ⟨g, 1, none⟩ = some (.int .i64 b) := hb.cellK; (first | (have nx := Ext.trans hx hb; clear hx) | (have nx := Ext.trans (hx.alloc _) hb; clear hx) | (have nx := Ext.trans hx.drew hb; clear hx) | have nx := hb); clear hb; try clear hs; try clear g0; try clear g1; try clear g2; try clear g3; have hx := nx; clear nx; have hs := ns; clear ns; have g0 := n0; clear n0; have g1 := n1; clear n1; have g2 := n2; clear n2; have g3 := n3; clear n3)
  have own0 := (World.ownsRow_lit (base := w0.heap.size) (e := 69) (size := 1) w0 #[] 0 (by simp) (by decide) rfl)
  have hs0 := ns
  have hgA : g < w0.heap.size := by omega
  have hwA : w.heap.size < w0.heap.size := by omega
  have k0 := (cell_alloc_before w0 (.cells #[] 69) _ 0 hwA).trans n0
  have k1 := (cell_alloc_before w0 (.cells #[] 69) _ 1 hwA).trans n1
  have k2 := (cell_alloc_before w0 (.cells #[] 69) _ 0 hgA).trans n2
  have k3 := (cell_alloc_before w0 (.cells #[] 69) _ 1 hgA).trans n3
  have OWN := Lib.hid own0; clear own0
  refine wp_loop_rounds 3 ?_
  rw [rounds_succ]
  go_wp2_with (first | (go_at_call 111; (with_reducible refine (iUnitsOf_yes e f a ha _).mono ?_); rintro rv w1 ⟨rfl, hb⟩; (first | (have OWN9 := Lib.hid (own_ext OWN.out hb); clear OWN; have OWN := OWN9; clear OWN9) | (have OWN9 := Lib.hid (own_ext (own_ext OWN.out (Ext.new _ _)) hb); clear OWN; have OWN := OWN9; clear OWN9)); have ns : w0.heap.size < w1.heap.size := hb.ltK; have n0 : w1.cell? ⟨w.heap.size, 0, none⟩ = some (.int .i64 e) := hb.cellK; have n1 : w1.cell? ⟨w.heap.size, 1, none⟩ = some (.int .i64 f) := hb.cellK; have n2 : w1.cell? ⟨g, 0, none⟩ = some (.int .i64 a) := hb.cellK; have n3 : w1.cell? ⟨g, 1, none⟩ = some (.int .i64 b) := hb.cellK; (first | (have nx := Ext.trans hx hb; clear hx) | (have nx := Ext.trans (hx.alloc _) hb; clear hx) | (have nx := Ext.trans hx.drew hb; clear hx) | have nx := hb); clear hb; try clear hs; try clear g0; try clear g1; try clear g2; try clear g3; have hx := nx; clear nx; have hs := ns; clear ns; have g0 := n0; clear n0; have g1 := n1; clear n1; have g2 := n2; clear n2; have g3 := n3; clear n3) | (at_builtin; (refine wpList_append_own _ rfl (.tmp 34) (.tmp 37) 66 rfl (w0.heap.size) 69 i _ 1 4 Try.underlying66 HI.out HZ.out HSZ.out HBY.out rfl (by decide) (.slice (some ⟨w0.heap.size, 0, none⟩) 0 0) 0 [] rfl (own_ext OWN.out (Ext.new _ _)) _ 1 1 [(.float .f32 (floatOfInt .f32 (unitsV e f a)))] rfl rfl (fun j u hj => by cases j with | zero => (simp at hj; subst hj; simp [go_sem, Addr.add]) | succ j => simp at hj) (by simp [Value.oneCell']) (by simp [maxLen]) (by omega) (by simp; omega) ?_); intro v9 w9 OWN8 hgr _; have hne : ∀ k, k < w0.heap.size → some k ≠ Value.ownBlock (.slice (some ⟨w0.heap.size, 0, none⟩) 0 0) := fun k hk h => (by have := (World.ownsRow.lt OWN.out _ h.symm).1; omega); have c0 : w9.cell? ⟨w.heap.size, 0, none⟩ = some (.int .i64 e) := hgr.cell ((cell_alloc_before _ _ (w.heap.size) 0 (by omega)).trans (by with_reducible assumption)) (hne (w.heap.size) (by omega)); have c1 : w9.cell? ⟨w.heap.size, 1, none⟩ = some (.int .i64 f) := hgr.cell ((cell_alloc_before _ _ (w.heap.size) 1 (by omega)).trans (by with_reducible assumption)) (hne (w.heap.size) (by omega)); have c2 : w9.cell? ⟨g, 0, none⟩ = some (.int .i64 a) := hgr.cell ((cell_alloc_before _ _ (g) 0 (by omega)).trans (by with_reducible assumption)) (hne (g) (by omega)); have c3 : w9.cell? ⟨g, 1, none⟩ = some (.int .i64 b) := hgr.cell ((cell_alloc_before _ _ (g) 1 (by omega)).trans (by with_reducible assumption)) (hne (g) (by omega)); have sz : w1.heap.size + 1 ≤ w9.heap.size := (by have h := hgr.size; rwa [World.size_alloc] at h); have hs9 : w0.heap.size < w9.heap.size := (by omega); have hx9 : Ext w w9 := ext_grown Ext.auK hgr (fun k hk => by have := (World.ownsRow.lt OWN.out k hk).1; omega); have OWN7 : RowKit.Hid (w9.ownsRow w0.heap.size 69 1 v9 1 [(.float .f32 (floatOfInt .f32 (unitsV e f a)))]) := OWN8; clear OWN OWN8 hne hgr; have OWN := OWN7; clear OWN7))
  rw [rounds_succ]
  go_wp2_with (first | (go_at_call 111; (with_reducible refine (iUnitsOf_no e f _ hn _).mono ?_); rintro rv w1 ⟨rfl, hb⟩; have ns : w0.heap.size < w1.heap.size := hb.ltK; have n0 : w1.cell? ⟨w.heap.size, 0, none⟩ = some (.int .i64 e) := hb.cellK; have n1 : w1.cell? ⟨w.heap.size, 1, none⟩ = some (.int .i64 f) := hb.cellK; have n2 : w1.cell? ⟨g, 0, none⟩ = some (.int .i64 a) := hb.cellK; have n3 : w1.cell? ⟨g, 1, none⟩ = some (.int .i64 b) := hb.cellK; (first | (have nx := Ext.trans hx hb; clear hx) | (have nx := Ext.trans (hx.alloc _) hb; clear hx) | (have nx := Ext.trans hx.drew hb; clear hx) | have nx := hb); clear hb; try clear hs; try clear g0; try clear g1; try clear g2; try clear g3; have hx := nx; clear nx; have hs := ns; clear ns; have g0 := n0; clear n0; have g1 := n1; clear n1; have g2 := n2; clear n2; have g3 := n3; clear n3))
  go_ret2
  exact ⟨rfl, Ext.auK⟩

theorem valuesOf2_bad (e f : Int) (v : Value) (hg1 : goodB e f = false) (w : World) : Calls Try.prog 57 #[fmt e f, v] w fun rv w' => rv = .returned (.tuple #[.slice none 0 0, .bool false]) ∧ Ext w w' := by
  go_enter Try.func57, Try.ntmps57
  go_wp2_with (go_at_call 51; refine (isFormat_any e f _).mono ?_; rintro rv w1 ⟨rfl, hb⟩; have ns : w.heap.size < w1.heap.size := hb.ltK; have n0 : w1.cell? ⟨w.heap.size, 0, none⟩ = some (.int .i64 e) := hb.cellK; have n1 : w1.cell? ⟨w.heap.size, 1, none⟩ = some (.int .i64 f) := hb.cellK; (first | (have nx := Ext.trans hx hb; clear hx) | (have nx := Ext.trans (hx.alloc _) hb; clear hx) | (have nx := Ext.trans hx.drew hb; clear hx) | have nx := hb); clear hb; try clear hs; try clear g0; try clear g1; have hx := nx; clear nx; have hs := ns; clear ns; have g0 := n0; clear n0; have g1 := n1; clear n1)
  go_ret2
  exact ⟨rfl, Ext.auK⟩

theorem valuesOf2_no (e f a b : Int) (g : Nat) (h : (finB e f a && finB e f b) = false) (w : World) (ca : w.cell? ⟨g, 0, none⟩ = some (.int .i64 a)) (cb : w.cell? ⟨g, 1, none⟩ = some (.int .i64 b)) (hg : g < w.heap.size) :
    Calls Try.prog 57 #[fmt e f, .slice (some ⟨g, 0, none⟩) 2 2] w fun rv w' => rv = .returned (.tuple #[.slice none 0 0, .bool false]) ∧ Ext w w' := by
  cases hg1 : goodB e f
  · exact valuesOf2_bad e f _ hg1 w
  · cases ha : finB e f a
    · exact valuesOf2_na e f a b g hg1 ha w ca cb hg
    · exact valuesOf2_nb e f a b g hg1 ha (by rw [ha] at h; simpa using h) w ca cb hg

theorem archTrunc_run (y : Nat) (hn : ∃ s m i, FloatKind.f64.decode y = .number s m i) (h : FloatKind.f64.encode ((FloatKind.f64.decode y).integral .zero) = y) (w : World) : (callFunc 157 #[.float .f64 y]).run Try.prog w = .ok (.value (.float .f64 y)) w := by
  refine (run_callFunc_extern (e := Extern.MathFloor.toIntegral "math.archTrunc" .zero) Try.func157 (by kernel_rfl) (by kernel_rfl) (by kernel_rfl) (by kernel_rfl) _ w).trans ?_
  obtain ⟨s, m, i, hn⟩ := hn
  have e : Extern.MathFloor.toIntegral "math.archTrunc" .zero #[.float .f64 y] = pure (.float .f64 y) := by
    unfold Extern.MathFloor.toIntegral
    generalize FloatKind.f64.decode = D at *
    generalize FloatKind.f64.encode = E at *
    rw [hn] at h
    conv => lhs; whnf
    rw [hn]
    conv => rhs; rw [← h]
  rw [e]
  rfl

theorem trunc_any (y : Nat) (hn : ∃ s m i, FloatKind.f64.decode y = .number s m i) (h : FloatKind.f64.encode ((FloatKind.f64.decode y).integral .zero) = y) (w : World) : Calls Try.prog 125 #[.float .f64 y] w fun rv w' => rv = .returned (.float .f64 y) ∧ w = w' := by
  have q := archTrunc_run y hn h
  clear hn h
  go_enter Try.func125, Try.ntmps125
  go_wp2
  go_ret
  exact ⟨rfl, rfl⟩

theorem sizeOf_inf (s : Bool) (w : World) : Calls Try.prog 119 #[.float .f32 (Ieee.single.word s Ieee.single.infRung)] w fun rv w' => rv = .returned (.float .f32 2139095040) ∧ Ext w w' := by
  have k1 : ∀ w, (Op.unary .neg (.float .f32 (Ieee.single.word s Ieee.single.infRung))).run Try.prog w = .ok (.float .f32 (Ieee.single.word (!s) Ieee.single.infRung)) w := fun w => by
    rw [← neg_word s _ (by decide)]
    rfl
  have k2 : ∀ (ts : Array TypeId) (t : TypeId) (w : World), (Builtin.max_ ts t #[.float .f32 (Ieee.single.word s Ieee.single.infRung), .float .f32 (Ieee.single.word (!s) Ieee.single.infRung)]).run Try.prog w = .ok (.float .f32 2139095040) w := by
    intro ts t w
    cases s <;> rfl
  generalize Ieee.single.word s Ieee.single.infRung = x at *
  generalize Ieee.single.word (!s) Ieee.single.infRung = y at *
  go_enter Try.func119, Try.ntmps119
  go_wp2
  go_ret
  exact ⟨rfl, Ext.auK⟩

/-- The pattern of a value of u units, s being that of its size. -/
def psV (e f u s : Int) : Int := if u < 0 then pw (e + f) + s else s

theorem iPu_s (e f s u : Int) (hg : goodB e f = true) (s0 : 0 ≤ s) (s1 : s ≤ grV e f) (hu : (u.natAbs : Int) = mgV f s) (w : World) : Calls Try.prog 126 #[fmt e f, .int .i64 u] w fun rv w' => rv = .returned (.tuple #[.int .i64 (psV e f u s), .bool true]) ∧ Ext w w' := by
  have hb := mg_bd hg s0 s1
  have hm : max u (-u) = mgV f s := by omega
  have hf := (good_iff.1 hg).2.2.1
  refine (iPu_yes e f u (by unfold puB; rw [hg]; simp; omega) w).mono ?_
  rintro rv w' ⟨p, rfl, hp, hb2⟩
  have hs : IsBelow f ((pw e - 1) * pw f - 1) (max u (-u)) s := by
    refine ⟨s0, s1, by omega, ?_⟩
    have := mg_st hf s0
    right
    omega
  obtain rfl := below_one f _ _ p s hf hp hs
  have e1 : (mgV f p == max u (-u)) = true := by rw [hm]; simp
  refine ⟨?_, hb2⟩
  unfold puV psV
  rw [e1, if_pos rfl]

set_option maxHeartbeats 3200000 in
theorem pv_fin (e f s : Int) (t : Bool) (hg : goodB e f = true) (s0 : 0 ≤ s) (s1 : s ≤ grV e f) (w : World) : Calls Try.prog 74 #[fmt e f, .float .f32 (sw Ieee.single t (mgN f s))] w fun rv w' => rv = .returned (.tuple #[.int .i64 (psV e f (sv t (mgV f s).toNat) s), .bool true]) ∧ Ext w w' := by
  obtain ⟨okM, ltM⟩ := mgN_ok hg s0 s1
  have hb := mg_bd hg s0 s1
  obtain ⟨wm, okN⟩ := wide_sw false okM
  have o1 := up_lt okM ltM
  have o2 := order_same okN
  have hu : ((sv t (mgV f s).toNat).natAbs : Int) = mgV f s := by unfold sv; split <;> omega
  have hpu := fun w => iPu_s e f s _ hg s0 s1 hu w
  have hic2 := int_mg t okM (by omega)
  have htr : ∀ w, Calls Try.prog 125 #[.float .f64 (fw Ieee.double (up64 (mgN f s)))] w fun rv w' => rv = .returned (.float .f64 (fw Ieee.double (up64 (mgN f s)))) ∧ w = w' := by
    intro w
    exact trunc_any _ (up_numf okN) (trunc_mg okM) w
  have hsz := fun w => sizeOf_sw t (mgN f s) okM w
  rw [sw_pos, sw_pos] at wm
  have cv1 : ∀ w, (convert 69 80 (.float .f32 (fw Ieee.single (mgN f s)))).run Try.prog w = .ok (.float .f64 (fw Ieee.double (up64 (mgN f s)))) w := fun w =>
    run_convert_float_float w _ _ .f32 .f64 _ _ (by kernel_rfl) Try.underlying80 wm
  have cv2 : ∀ w, (convert 69 3 (.float .f32 (sw Ieee.single t (mgN f s)))).run Try.prog w = .ok (.int .i64 (sv t (mgV f s).toNat)) w := fun w =>
    run_convert_float_int w _ _ .f32 .i64 _ _ (by kernel_rfl) Try.underlying3 hic2
  clear okM ltM hb wm okN hu hic2
  generalize sv t (mgV f s).toNat = u at *
  generalize sw Ieee.single t (mgN f s) = x1 at *
  generalize fw Ieee.double (up64 (mgN f s)) = x2 at *
  generalize fw Ieee.single (mgN f s) = x3 at *
  have HTR := Lib.hid htr; clear htr
  have HSZ := Lib.hid hsz; clear hsz
  have HPU := Lib.hid hpu; clear hpu
  go_enter Try.func74, Try.ntmps74
  go_wp2_with (first | (go_at_call 119; refine (HSZ.out _).mono ?_; rintro rv w1 ⟨rfl, hb⟩; have ns : w.heap.size < w1.heap.size := hb.ltK; have n0 : w1.cell? ⟨w.heap.size, 0, none⟩ = some (.int .i64 e) := hb.cellK; have n1 : w1.cell? ⟨w.heap.size, 1, none⟩ = some (.int .i64 f) := hb.cellK; (first | (have nx := Ext.trans hx hb; clear hx) | (have nx := Ext.trans (hx.alloc _) hb; clear hx) | (have nx := Ext.trans hx.drew hb; clear hx) | have nx := hb); clear hb; try clear hs; try clear g0; try clear g1; have hx := nx; clear nx; have hs := ns; clear ns; have g0 := n0; clear n0; have g1 := n1; clear n1) | (go_at_call 125; refine (HTR.out _).mono ?_; rintro rv w1 ⟨rfl, rfl⟩) | (go_at_call 126; refine (HPU.out _).mono ?_; rintro rv w1 ⟨rfl, hb⟩; have ns : w.heap.size < w1.heap.size := hb.ltK; have n0 : w1.cell? ⟨w.heap.size, 0, none⟩ = some (.int .i64 e) := hb.cellK; have n1 : w1.cell? ⟨w.heap.size, 1, none⟩ = some (.int .i64 f) := hb.cellK; (first | (have nx := Ext.trans hx hb; clear hx) | (have nx := Ext.trans (hx.alloc _) hb; clear hx) | (have nx := Ext.trans hx.drew hb; clear hx) | have nx := hb); clear hb; try clear hs; try clear g0; try clear g1; have hx := nx; clear nx; have hs := ns; clear ns; have g0 := n0; clear n0; have g1 := n1; clear n1))
  go_ret2
  exact ⟨rfl, Ext.auK⟩

theorem pv_inf (e f : Int) (t : Bool) (w : World) : Calls Try.prog 74 #[fmt e f, .float .f32 (Ieee.single.word t Ieee.single.infRung)] w fun rv w' => rv = .returned (.tuple #[.int .i64 0, .bool false]) ∧ Ext w w' := by
  have hsz := fun w => sizeOf_inf t w
  have cv1 : ∀ w, (convert 69 80 (.float .f32 2139095040)).run Try.prog w = .ok (.float .f64 9218868437227405312) w := fun w =>
    run_convert_float_float w _ _ .f32 .f64 _ _ (by kernel_rfl) Try.underlying80 (by decide +kernel)
  have o1 : FloatKind.f64.format.order 9218868437227405312 4791830003522207744 = some .gt := by decide +kernel
  generalize Ieee.single.word t Ieee.single.infRung = x1 at *
  have HSZ := Lib.hid hsz; clear hsz
  go_enter Try.func74, Try.ntmps74
  go_wp2_with (go_at_call 119; refine (HSZ.out _).mono ?_; rintro rv w1 ⟨rfl, hb⟩; have ns : w.heap.size < w1.heap.size := hb.ltK; have n0 : w1.cell? ⟨w.heap.size, 0, none⟩ = some (.int .i64 e) := hb.cellK; have n1 : w1.cell? ⟨w.heap.size, 1, none⟩ = some (.int .i64 f) := hb.cellK; (first | (have nx := Ext.trans hx hb; clear hx) | (have nx := Ext.trans (hx.alloc _) hb; clear hx) | (have nx := Ext.trans hx.drew hb; clear hx) | have nx := hb); clear hb; try clear hs; try clear g0; try clear g1; have hx := nx; clear nx; have hs := ns; clear ns; have g0 := n0; clear n0; have g1 := n1; clear n1)
  go_ret2
  exact ⟨rfl, Ext.auK⟩

set_option maxHeartbeats 3200000 in
theorem near2G (e f : Int) (x0 y0 r0 x1 y1 r1 : Nat) (gl cap : Nat) (h0 : floatBits .add .f32 0 x0 = some y0) (N0 : ∀ w, Calls Try.prog 70 #[fmt e f, .float .f32 y0] w fun rv w' => rv = .returned (.float .f32 r0) ∧ Ext w w') (h1 : floatBits .add .f32 r0 x1 = some y1) (N1 : ∀ w, Calls Try.prog 70 #[fmt e f, .float .f32 y1] w fun rv w' => rv = .returned (.float .f32 r1) ∧ Ext w w') (w : World) (c0 : w.cell? ⟨gl, 0, none⟩ = some (.float .f32 x0)) (c1 : w.cell? ⟨gl, 1, none⟩ = some (.float .f32 x1)) (hgl : gl < w.heap.size) : Calls Try.prog 58 #[fmt e f, .slice (some ⟨gl, 0, none⟩) 2 cap] w fun rv w' => rv = .returned (.float .f32 r1) ∧ Ext w w' := by
  have A0 : ∀ (t : TypeId) (w : World), (binOp .add t (.float .f32 0) (.float .f32 x0)).run Try.prog w = .ok (.float .f32 y0) w := fun t w => run_float_arith w .add t .f32 _ _ _ h0
  replace N0 := Lib.hid N0
  clear h0
  have A1 : ∀ (t : TypeId) (w : World), (binOp .add t (.float .f32 r0) (.float .f32 x1)).run Try.prog w = .ok (.float .f32 y1) w := fun t w => run_float_arith w .add t .f32 _ _ _ h1
  replace N1 := Lib.hid N1
  clear h1
  go_enter Try.func58, Try.ntmps58
  go_wp2_with fail
  refine wp_loop_rounds 3 ?_
  rw [rounds_succ]
  go_wp2_with (go_at_call 70; (with_reducible refine (N0.out _).mono ?_); rintro rv w1 ⟨rfl, hb⟩; have ns : max w.heap.size gl < w1.heap.size := hb.ltK; have n0 : w1.cell? ⟨w.heap.size, 0, none⟩ = some (.int .i64 e) := hb.cellK; have n1 : w1.cell? ⟨w.heap.size, 1, none⟩ = some (.int .i64 f) := hb.cellK; have n2 : w1.cell? ⟨gl, 0, none⟩ = some (.float .f32 x0) := hb.cellK; have n3 : w1.cell? ⟨gl, 1, none⟩ = some (.float .f32 x1) := hb.cellK; (first | (have nx := Ext.trans hx hb; clear hx) | (have nx := Ext.trans (hx.alloc _) hb; clear hx) | (have nx := Ext.trans hx.drew hb; clear hx) | have nx := hb); clear hb; try clear hs; try clear g0; try clear g1; try clear g2; try clear g3; have hx := nx; clear nx; have hs := ns; clear ns; have g0 := n0; clear n0; have g1 := n1; clear n1; have g2 := n2; clear n2; have g3 := n3; clear n3)
  rw [rounds_succ]
  go_wp2_with (go_at_call 70; (with_reducible refine (N1.out _).mono ?_); rintro rv w1 ⟨rfl, hb⟩; have ns : max w.heap.size gl < w1.heap.size := hb.ltK; have n0 : w1.cell? ⟨w.heap.size, 0, none⟩ = some (.int .i64 e) := hb.cellK; have n1 : w1.cell? ⟨w.heap.size, 1, none⟩ = some (.int .i64 f) := hb.cellK; have n2 : w1.cell? ⟨gl, 0, none⟩ = some (.float .f32 x0) := hb.cellK; have n3 : w1.cell? ⟨gl, 1, none⟩ = some (.float .f32 x1) := hb.cellK; (first | (have nx := Ext.trans hx hb; clear hx) | (have nx := Ext.trans (hx.alloc _) hb; clear hx) | (have nx := Ext.trans hx.drew hb; clear hx) | have nx := hb); clear hb; try clear hs; try clear g0; try clear g1; try clear g2; try clear g3; have hx := nx; clear nx; have hs := ns; clear ns; have g0 := n0; clear n0; have g1 := n1; clear n1; have g2 := n2; clear n2; have g3 := n3; clear n3)
  rw [rounds_succ]
  go_wp2_with fail
  go_ret
  exact ⟨rfl, Ext.auK⟩
end Go.Proofs.Ytjebechmedhidaa

namespace Go.Proofs.Ytjebechmedhidaa
open Go Go.RowKit
set_option linter.unusedSimpArgs false
set_option linter.unusedVariables false
set_option maxRecDepth 100000

/-- s is what u units are rounded to, without the sign. -/
def NSp (e f u s : Int) : Prop := IsRnd f (grV e f) (u.natAbs : Int) 1 0 false s

noncomputable def nsP (e f u : Int) : Int := Classical.epsilon (fun s => NSp e f u s)

/-- A pattern with the sign of u, and 0 for both zeros. -/
def exV (e f u s : Int) : Int := if s = 0 then 0 else if u < 0 then pw (e + f) + s else s

/-- The near sum whose exact one is u units. -/
noncomputable def nsV (e f u : Int) : Int := exV e f u (nsP e f u)

noncomputable def nsB (e f u : Int) : Bool := decide (nsP e f u ≤ grV e f)

noncomputable def nsR (e f u : Int) : Int := if nsB e f u = true then nsV e f u else 0

theorem nsP_ex {e f u : Int} (hg : goodB e f = true) : NSp e f u (nsP e f u) := by
  have h : ∃ s, NSp e f u s := by
    obtain ⟨p, hp⟩ := belowq_ex f (u.natAbs : Int) 1 (good_iff.1 hg).2.2.1 (by omega) (grV e f).toNat
    rw [Int.toNat_of_nonneg (by have := (gr_bd2 hg).1; omega)] at hp
    exact ⟨_, p, hp, rfl⟩
  exact Classical.epsilon_spec h

theorem nsP_one {e f u s : Int} (hg : goodB e f = true) (h : NSp e f u s) : s = nsP e f u := rnd_one (good_iff.1 hg).2.2.1 (by decide) h (nsP_ex hg)

theorem nsP_bd {e f u : Int} (hg : goodB e f = true) : 0 ≤ nsP e f u ∧ nsP e f u ≤ grV e f + 1 := rnd_top (nsP_ex hg)

theorem mg_zero (f : Int) : mgV f 0 = 0 := by
  unfold mgV
  rw [if_neg (by simp)]; simp

theorem rnd_self {f g D p : Int} (hf : 1 ≤ f) (hD : 0 < D) (p0 : 0 ≤ p) (p1 : p ≤ g) : IsRnd f g (mgV f p * D) D 0 false p := by
  obtain ⟨a1, a2, a3, a4⟩ := mg_st hf p0
  have := Int.mul_lt_mul_of_pos_right (show mgV f p < mgV f (p + 1) by omega) hD
  refine ⟨p, ⟨p0, p1, Int.le_refl _, Or.inr this⟩, ?_⟩
  unfold rndP
  rw [if_pos (by omega)]

theorem nsP_val {e f u s : Int} (hg : goodB e f = true) (s0 : 0 ≤ s) (s1 : s ≤ grV e f) (h : (u.natAbs : Int) = mgV f s) : nsP e f u = s := by
  refine (nsP_one hg ?_).symm
  have := rnd_self (g := grV e f) (D := 1) (good_iff.1 hg).2.2.1 (by decide) s0 s1
  unfold NSp
  rw [h]
  rwa [Int.mul_one] at this

theorem nsP_zero {e f u : Int} (hg : goodB e f = true) : nsP e f u = 0 ↔ u = 0 := by
  constructor
  · intro h
    have h2 : NSp e f u (nsP e f u) := nsP_ex hg
    rw [h] at h2
    obtain ⟨p, ⟨p0, p1, p2, p3⟩, hr⟩ := h2
    have hp : p = 0 := by
      unfold rndP at hr
      split at hr
      · omega
      · split at hr <;> omega
    subst hp
    have hf := (good_iff.1 hg).2.2.1
    obtain ⟨a1, a2, a3, a4⟩ := mg_st hf (Int.le_refl 0)
    have g0 := (gr_bd2 hg).1
    have c := pw_pos f
    have e1 : stV f 0 = 1 := by
      unfold stV
      rw [show (0 : Int) / pw f = 0 by simp]; decide
    rw [Int.zero_add] at a4 p3
    rw [mg_zero] at a4
    rcases p3 with p3 | p3
    · omega
    · rw [a4, e1] at p3
      omega
  · intro h
    subst h
    exact nsP_val hg (Int.le_refl 0) (by have := (gr_bd2 hg).1; omega) (by rw [mg_zero]; rfl)

theorem kind_lt3 {e f p : Int} (hp : patB e f p = true) : decide (kindV e f p < 3) = finB e f p := by
  unfold finB kindV
  rw [hp, Bool.true_and]
  by_cases h : p % pw (e + f) / pw f = pw e - 1
  · rw [if_pos (by simpa using h), decide_eq_false (show ¬ (p % pw (e + f) / pw f < pw e - 1) by omega)]
    apply decide_eq_false
    split <;> omega
  · rw [if_neg (by simpa using h)]
    obtain ⟨hg, p0, p1⟩ := pat_iff.1 hp
    obtain ⟨h1, h2, h3, h4⟩ := good_iff.1 hg
    obtain ⟨⟨a1, a2⟩, ⟨b1, b2⟩, ⟨c1, c2⟩, hmul⟩ := pw_facts h1 h2 h3 h4
    have r1 := Int.emod_lt_of_pos p (show 0 < pw (e + f) by omega)
    have : p % pw (e + f) / pw f < pw e := Int.ediv_lt_of_lt_mul (by omega) (by rw [← hmul]; exact r1)
    rw [decide_eq_true (show p % pw (e + f) / pw f < pw e - 1 by omega)]
    apply decide_eq_true
    split
    · omega
    · split <;> omega

theorem ns_pat {e f u : Int} (hg : goodB e f = true) : patB e f (nsV e f u) = true ∧ finB e f (nsV e f u) = nsB e f u := by
  obtain ⟨s0, s1⟩ := nsP_bd (u := u) hg
  obtain ⟨q1, q2, q3, q4⟩ := s_parts hg s0 s1
  have pp := pw_pos (e + f)
  have lt : nsP e f u < pw (e + f) := by
    have := Int.emod_lt_of_pos (nsP e f u) (show 0 < pw (e + f) by omega)
    omega
  have hm : nsV e f u % pw (e + f) = nsP e f u := by
    unfold nsV exV
    by_cases z : nsP e f u = 0
    · rw [if_pos z, z]; simp
    · rw [if_neg z]
      split
      · rw [Int.add_comm, Int.add_emod_right]; exact q3
      · exact q3
  have hp : patB e f (nsV e f u) = true := by
    refine pat_iff.2 ⟨hg, ?_, ?_⟩ <;> (unfold nsV exV; split; omega; split <;> omega)
  refine ⟨hp, ?_⟩
  unfold finB nsB
  rw [hp, Bool.true_and, hm, decide_eq_decide]
  exact q4

theorem mag_mod {e f p : Int} (hp : patB e f p = true) : magV e f p = mgV f (p % pw (e + f)) := by
  obtain ⟨hg, p0, p1⟩ := pat_iff.1 hp
  obtain ⟨h1, h2, h3, h4⟩ := good_iff.1 hg
  have hd : pw (e + f) = pw e * pw f := pw_add e f (by omega) (by omega)
  have hm : p % pw (e + f) % pw f = p % pw f := by
    rw [hd]
    exact Int.emod_emod_of_dvd p ⟨pw e, Int.mul_comm _ _⟩
  unfold magV mgV
  rw [hm]

/-- The size of a finite pattern. -/
theorem fin_size {e f p : Int} (h : finB e f p = true) : goodB e f = true ∧ 0 ≤ p % pw (e + f) ∧ p % pw (e + f) ≤ grV e f ∧ ((unitsV e f p).natAbs : Int) = mgV f (p % pw (e + f)) := by
  obtain ⟨hp, hx⟩ := fin_pat h
  obtain ⟨hg, p0, p1⟩ := pat_iff.1 hp
  have pp := pw_pos (e + f)
  have r0 := Int.emod_nonneg p (show pw (e + f) ≠ 0 by omega)
  have c := pw_pos f
  have le : p % pw (e + f) ≤ grV e f := by
    rw [Int.ediv_lt_iff_lt_mul (by omega)] at hx
    unfold grV
    omega
  refine ⟨hg, r0, le, ?_⟩
  have hb := mag_bd e f p hp
  rw [← mag_mod hp]
  unfold unitsV
  split <;> omega

theorem ns_small {e f a b : Int} (ha : finB e f a = true) (hb : finB e f b = true) : -4398046511104 ≤ unitsV e f a + unitsV e f b ∧ unitsV e f a + unitsV e f b ≤ 4398046511104 ∧ -2199023255552 < unitsV e f a ∧ unitsV e f a < 2199023255552 ∧ -2199023255552 < unitsV e f b ∧ unitsV e f b < 2199023255552 := by
  obtain ⟨hg, a0, a1, a2⟩ := fin_size ha
  obtain ⟨_, b0, b1, b2⟩ := fin_size hb
  have := mg_bd hg a0 a1
  have := mg_bd hg b0 b1
  omega

/-- The single sum of two values is rounded as their sum is. -/
theorem ns_single {e f a b : Int} (ha : finB e f a = true) (hb : finB e f b = true) : ∃ V : Nat, Ok Ieee.single V ∧ V < 2 ^ 191 ∧ cw (unitsV e f a + unitsV e f b) = sw Ieee.single (decide (unitsV e f a + unitsV e f b < 0)) V ∧ ∀ s, IsRnd f (grV e f) V (pw 149) 0 false s → s = nsP e f (unitsV e f a + unitsV e f b) := by
  obtain ⟨hg, a0, a1, a2⟩ := fin_size ha
  obtain ⟨_, b0, b1, b2⟩ := fin_size hb
  rcases Nat.le_total (unitsV e f b).natAbs (unitsV e f a).natAbs with h | h
  · obtain ⟨V, v1, v2, v3, _, _, v4⟩ := sum_single (X := (unitsV e f a + unitsV e f b).natAbs) hg a0 a1 b0 b1 a2.symm b2.symm h (by omega)
    exact ⟨V, v1, v2, cw_same v3, fun s hs => nsP_one hg (v4 s hs)⟩
  · obtain ⟨V, v1, v2, v3, _, _, v4⟩ := sum_single (X := (unitsV e f a + unitsV e f b).natAbs) hg b0 b1 a0 a1 b2.symm a2.symm h (by omega)
    exact ⟨V, v1, v2, cw_same v3, fun s hs => nsP_one hg (v4 s hs)⟩

theorem ok_units {e f a : Int} (ha : finB e f a = true) : Ok Ieee.single ((unitsV e f a).natAbs * 2 ^ 149) := by
  obtain ⟨hg, a0, a1, a2⟩ := fin_size ha
  exact ok_abs (mgN_ok hg a0 a1).1 a2

theorem nearest_val (e f a : Int) (ha : finB e f a = true) (w : World) : Calls Try.prog 70 #[fmt e f, .float .f32 (cw (unitsV e f a))] w fun rv w' => rv = .returned (.float .f32 (cw (unitsV e f a))) ∧ Ext w w' := by
  obtain ⟨hg, a0, a1, a2⟩ := fin_size ha
  obtain ⟨ok, lt⟩ := mgN_ok hg a0 a1
  have hf := (good_iff.1 hg).2.2.1
  have hm := mgN_cast f (a % pw (e + f)) (mg_bd hg a0 a1).1
  rw [cw_mg a2]
  refine (nearest_sw e f _ _ hg ok (Nat.lt_trans lt (by decide)) w).mono ?_
  rintro rv w' ⟨s, rfl, hs, _, hb⟩
  rw [hm] at hs
  obtain rfl := rnd_one hf (by have := pw_pos 149; omega) hs (rnd_self hf (by have := pw_pos 149; omega) a0 a1)
  refine ⟨?_, hb⟩
  unfold nrW
  rw [if_pos a1]

theorem nearest_sum (e f a b : Int) (ha : finB e f a = true) (hb2 : finB e f b = true) (w : World) : Calls Try.prog 70 #[fmt e f, .float .f32 (cw (unitsV e f a + unitsV e f b))] w fun rv w' => rv = .returned (.float .f32 (nrW e f (decide (unitsV e f a + unitsV e f b < 0)) (nsP e f (unitsV e f a + unitsV e f b)))) ∧ Ext w w' := by
  obtain ⟨hg, _⟩ := fin_size ha
  obtain ⟨V, v1, v2, v3, v4⟩ := ns_single ha hb2
  rw [v3]
  refine (nearest_sw e f _ V hg v1 v2 w).mono ?_
  rintro rv w' ⟨s, rfl, hs, _, hb⟩
  rw [v4 s hs]
  exact ⟨rfl, hb⟩

theorem pv_ns (e f u : Int) (hg : goodB e f = true) (w : World) : Calls Try.prog 74 #[fmt e f, .float .f32 (nrW e f (decide (u < 0)) (nsP e f u))] w fun rv w' => rv = .returned (.tuple #[.int .i64 (nsR e f u), .bool (nsB e f u)]) ∧ Ext w w' := by
  obtain ⟨s0, s1⟩ := nsP_bd (u := u) hg
  by_cases g : nsP e f u ≤ grV e f
  · have hb := mg_bd hg s0 g
    have e1 : psV e f (sv (decide (u < 0)) (mgV f (nsP e f u)).toNat) (nsP e f u) = nsR e f u := by
      unfold nsR nsV nsB psV exV
      rw [decide_eq_true g, if_pos rfl]
      by_cases z : nsP e f u = 0
      · rw [if_pos z, z, mg_zero]
        rw [if_neg]
        unfold sv
        split <;> simp
      · rw [if_neg z]
        have m1 : 0 < mgV f (nsP e f u) := by
          have := mg_mono f 1 (nsP e f u) (good_iff.1 hg).2.2.1 (by decide) (by omega)
          have c := pw_pos f
          have c2 := (pw_facts (good_iff.1 hg).1 (good_iff.1 hg).2.1 (good_iff.1 hg).2.2.1 (good_iff.1 hg).2.2.2).2.2.1.1
          rw [mg_small f 1 (by decide) (by omega)] at this
          omega
        by_cases n : u < 0
        · rw [if_pos n, decide_eq_true n]
          rw [if_pos]
          unfold sv
          rw [if_pos rfl]
          omega
        · rw [if_neg n, decide_eq_false n]
          rw [if_neg]
          unfold sv
          rw [if_neg (by decide)]
          omega
    have e2 : nsB e f u = true := decide_eq_true g
    unfold nrW
    rw [if_pos g]
    have := pv_fin e f (nsP e f u) (decide (u < 0)) hg s0 g w
    rw [e1] at this
    rw [e2]
    exact this
  · have e2 : nsB e f u = false := decide_eq_false g
    have e3 : nsR e f u = 0 := by unfold nsR; rw [e2]; rfl
    unfold nrW
    rw [if_neg g, e2, e3]
    exact pv_inf e f (decide (u < 0)) w

/-- The zero with the sign 0 for both. -/
def ezV (e f p : Int) : Int := if p % pw (e + f) = 0 then 0 else p

theorem exZero_any (e f p : Int) (hg : goodB e f = true) (hp : 0 ≤ p) (w : World) : Calls Try.prog 62 #[fmt e f, .int .i64 p] w fun rv w' => rv = .returned (.int .i64 (ezV e f p)) ∧ Ext w w' := by
  by_cases h : p % pw (e + f) = 0
  · have e1 : ezV e f p = 0 := if_pos h
    have hz : (p % pw (e + f) == 0) = true := by simpa using h
    rw [e1]
    clear h e1
    go_enter Try.func62, Try.ntmps62
    go_wp2_with (go_at_call 95; refine (fmSize_any e f p hg hp _).mono ?_; rintro rv w1 ⟨rfl, hb⟩; have ns : w.heap.size < w1.heap.size := hb.ltK; have n0 : w1.cell? ⟨w.heap.size, 0, none⟩ = some (.int .i64 e) := hb.cellK; have n1 : w1.cell? ⟨w.heap.size, 1, none⟩ = some (.int .i64 f) := hb.cellK; (first | (have nx := Ext.trans hx hb; clear hx) | (have nx := Ext.trans (hx.alloc _) hb; clear hx) | (have nx := Ext.trans hx.drew hb; clear hx) | have nx := hb); clear hb; try clear hs; try clear g0; try clear g1; have hx := nx; clear nx; have hs := ns; clear ns; have g0 := n0; clear n0; have g1 := n1; clear n1)
    go_ret
    exact ⟨rfl, Ext.auK⟩
  · have e1 : ezV e f p = p := if_neg h
    have hz : (p % pw (e + f) == 0) = false := by simpa using h
    rw [e1]
    clear h e1
    go_enter Try.func62, Try.ntmps62
    go_wp2_with (go_at_call 95; refine (fmSize_any e f p hg hp _).mono ?_; rintro rv w1 ⟨rfl, hb⟩; have ns : w.heap.size < w1.heap.size := hb.ltK; have n0 : w1.cell? ⟨w.heap.size, 0, none⟩ = some (.int .i64 e) := hb.cellK; have n1 : w1.cell? ⟨w.heap.size, 1, none⟩ = some (.int .i64 f) := hb.cellK; (first | (have nx := Ext.trans hx hb; clear hx) | (have nx := Ext.trans (hx.alloc _) hb; clear hx) | (have nx := Ext.trans hx.drew hb; clear hx) | have nx := hb); clear hb; try clear hs; try clear g0; try clear g1; have hx := nx; clear nx; have hs := ns; clear ns; have g0 := n0; clear n0; have g1 := n1; clear n1)
    go_ret
    exact ⟨rfl, Ext.auK⟩

theorem exFits_any (e f p : Int) (hp : patB e f p = true) (w : World) : Calls Try.prog 64 #[fmt e f, .int .i64 p] w fun rv w' => rv = .returned (.bool (finB e f p)) ∧ Ext w w' := by
  rw [← kind_lt3 hp]
  go_enter Try.func64, Try.ntmps64
  go_wp2_with (go_at_call 112; refine (fmKind_any e f p hp _).mono ?_; rintro rv w1 ⟨rfl, hb⟩; have ns : w.heap.size < w1.heap.size := hb.ltK; have n0 : w1.cell? ⟨w.heap.size, 0, none⟩ = some (.int .i64 e) := hb.cellK; have n1 : w1.cell? ⟨w.heap.size, 1, none⟩ = some (.int .i64 f) := hb.cellK; (first | (have nx := Ext.trans hx hb; clear hx) | (have nx := Ext.trans (hx.alloc _) hb; clear hx) | (have nx := Ext.trans hx.drew hb; clear hx) | have nx := hb); clear hb; try clear hs; try clear g0; try clear g1; have hx := nx; clear nx; have hs := ns; clear ns; have g0 := n0; clear n0; have g1 := n1; clear n1)
  go_ret
  exact ⟨rfl, Ext.auK⟩

theorem exBoth_any (e f a b : Int) (w : World) : Calls Try.prog 54 #[fmt e f, .int .i64 a, .int .i64 b] w fun rv w' => rv = .returned (.bool (finB e f a && finB e f b)) ∧ Ext w w' := by
  cases h : finB e f a
  · go_enter Try.func54, Try.ntmps54
    go_wp2_with (go_at_call 78; refine (fmFinite_any e f _ _).mono ?_; rintro rv w1 ⟨rfl, hb⟩; have ns : w.heap.size < w1.heap.size := hb.ltK; have n0 : w1.cell? ⟨w.heap.size, 0, none⟩ = some (.int .i64 e) := hb.cellK; have n1 : w1.cell? ⟨w.heap.size, 1, none⟩ = some (.int .i64 f) := hb.cellK; (first | (have nx := Ext.trans hx hb; clear hx) | (have nx := Ext.trans (hx.alloc _) hb; clear hx) | (have nx := Ext.trans hx.drew hb; clear hx) | have nx := hb); clear hb; try clear hs; try clear g0; try clear g1; have hx := nx; clear nx; have hs := ns; clear ns; have g0 := n0; clear n0; have g1 := n1; clear n1)
    go_ret
    exact ⟨rfl, Ext.auK⟩
  · go_enter Try.func54, Try.ntmps54
    go_wp2_with (go_at_call 78; refine (fmFinite_any e f _ _).mono ?_; rintro rv w1 ⟨rfl, hb⟩; have ns : w.heap.size < w1.heap.size := hb.ltK; have n0 : w1.cell? ⟨w.heap.size, 0, none⟩ = some (.int .i64 e) := hb.cellK; have n1 : w1.cell? ⟨w.heap.size, 1, none⟩ = some (.int .i64 f) := hb.cellK; (first | (have nx := Ext.trans hx hb; clear hx) | (have nx := Ext.trans (hx.alloc _) hb; clear hx) | (have nx := Ext.trans hx.drew hb; clear hx) | have nx := hb); clear hb; try clear hs; try clear g0; try clear g1; have hx := nx; clear nx; have hs := ns; clear ns; have g0 := n0; clear n0; have g1 := n1; clear n1)
    go_ret
    exact ⟨ret_bool (by simp), Ext.auK⟩

set_option maxHeartbeats 3200000 in
theorem exOf_n (e f u : Int) (hg : goodB e f = true) (h1 : -35184372088832 ≤ u) (h2 : u ≤ 35184372088832) (hd : decide (u < 0) = true) (w : World) : Calls Try.prog 109 #[fmt e f, .int .i64 u] w fun rv w' => rv = .returned (.int .i64 (nsV e f u)) ∧ Ext w w' := by
  have EQ := Lib.hid (fun (s : Int) (h : IsRnd f (grV e f) ((u.natAbs : Int) * 1 + 0) 1 0 true s) => nsP_one (s := s) hg (by
    rw [Int.mul_one, Int.add_zero] at h
    exact h))
  have RSG : RowKit.Hid (∀ (s : Int) (hs : s = nsP e f u) (w : World), Calls Try.prog 48 #[fmt e f, .int .i64 s, .bool true] w fun rv w' => rv = .returned (.int .i64 (pw (e + f) + s)) ∧ Ext w w') := fun s hs w => by
    obtain ⟨s0, s1⟩ := nsP_bd (u := u) hg
    have gb := gr_bd2 hg
    have := rdSigned_any e f s true hg (by omega) (by omega) w
    exact this
  have EZ : RowKit.Hid (∀ (s : Int) (hs : s = nsP e f u) (w : World), Calls Try.prog 62 #[fmt e f, .int .i64 (pw (e + f) + s)] w fun rv w' => rv = .returned (.int .i64 (nsV e f u)) ∧ Ext w w') := fun s hs w => by
    obtain ⟨s0, s1⟩ := nsP_bd (u := u) hg
    obtain ⟨q1, q2, q3, q4⟩ := s_parts hg s0 s1
    have pp := pw_pos (e + f)
    have := exZero_any e f (pw (e + f) + s) hg (by omega) w
    have e1 : ezV e f (pw (e + f) + s) = nsV e f u := by
      unfold ezV nsV exV
      rw [hs]
      rw [Int.add_comm, Int.add_emod_right, q3, if_pos (of_decide_eq_true hd), Int.add_comm]
    rw [e1] at this
    exact this
  go_enter Try.func109, Try.ntmps109
  go_wp2_with fail
  go_region_held3 (fun w' => w'.cell? ⟨w.heap.size, 0, none⟩ = some (.int .i64 e) ∧ w'.cell? ⟨w.heap.size, 1, none⟩ = some (.int .i64 f) ∧ w.heap.size < w'.heap.size) ((refine ⟨?_, ?_, ?_⟩ <;> first | with_reducible assumption | ((rw [cell_setRow_far _ _ _ _ _ (by omega)]); with_reducible assumption) | ((rw [setRow_size]); with_reducible assumption) | ((repeat rw [World.cell?_setCell_far _ _ _ _ (by simp)]); with_reducible assumption) | (simp; done) | (simp [World.setCell]; first | done | omega) | (simp [go_sem, World.cell?_alloc_past, World.cell?_setCell_far, *]; done))) ((first | (go_at_call 83; refine (l1Abs_nat u (by omega) (by omega) _).mono ?_; rintro rv w1 ⟨rfl, rfl⟩) | (go_at_call 49; refine (rdSize_any e f (u.natAbs : Int) 0 1 0 true hg (by omega) (by omega) (by omega) (by omega) (by omega) (by omega) (by omega) _).mono ?_; rintro rv w1 ⟨s, rfl, hq, hb⟩; have HQ := Lib.hid (EQ.out s hq); clear hq; have ns : w.heap.size < w1.heap.size := hb.ltK; have n0 : w1.cell? ⟨w.heap.size, 0, none⟩ = some (.int .i64 e) := hb.cellK; have n1 : w1.cell? ⟨w.heap.size, 1, none⟩ = some (.int .i64 f) := hb.cellK; (first | (have nx := Ext.trans hx hb; clear hx) | (have nx := Ext.trans (hx.alloc _) hb; clear hx) | (have nx := Ext.trans hx.drew hb; clear hx) | have nx := hb); clear hb; try clear hs; try clear g0; try clear g1; have hx := nx; clear nx; have hs := ns; clear ns; have g0 := n0; clear n0; have g1 := n1; clear n1) | (go_at_call 48; refine (RSG.out _ HQ.out _).mono ?_; rintro rv w1 ⟨rfl, hb⟩; have ns : w.heap.size < w1.heap.size := hb.ltK; have n0 : w1.cell? ⟨w.heap.size, 0, none⟩ = some (.int .i64 e) := hb.cellK; have n1 : w1.cell? ⟨w.heap.size, 1, none⟩ = some (.int .i64 f) := hb.cellK; (first | (have nx := Ext.trans hx hb; clear hx) | (have nx := Ext.trans (hx.alloc _) hb; clear hx) | (have nx := Ext.trans hx.drew hb; clear hx) | have nx := hb); clear hb; try clear hs; try clear g0; try clear g1; have hx := nx; clear nx; have hs := ns; clear ns; have g0 := n0; clear n0; have g1 := n1; clear n1) | (go_at_call 62; refine (EZ.out _ HQ.out _).mono ?_; rintro rv w1 ⟨rfl, hb⟩; have ns : w.heap.size < w1.heap.size := hb.ltK; have n0 : w1.cell? ⟨w.heap.size, 0, none⟩ = some (.int .i64 e) := hb.cellK; have n1 : w1.cell? ⟨w.heap.size, 1, none⟩ = some (.int .i64 f) := hb.cellK; (first | (have nx := Ext.trans hx hb; clear hx) | (have nx := Ext.trans (hx.alloc _) hb; clear hx) | (have nx := Ext.trans hx.drew hb; clear hx) | have nx := hb); clear hb; try clear hs; try clear g0; try clear g1; have hx := nx; clear nx; have hs := ns; clear ns; have g0 := n0; clear n0; have g1 := n1; clear n1)))
  go_wp2_with fail
  go_ret
  exact ⟨rfl, Ext.auK⟩

set_option maxHeartbeats 3200000 in
theorem exOf_p (e f u : Int) (hg : goodB e f = true) (h1 : -35184372088832 ≤ u) (h2 : u ≤ 35184372088832) (hd : decide (u < 0) = false) (w : World) : Calls Try.prog 109 #[fmt e f, .int .i64 u] w fun rv w' => rv = .returned (.int .i64 (nsV e f u)) ∧ Ext w w' := by
  have EQ := Lib.hid (fun (s : Int) (h : IsRnd f (grV e f) ((u.natAbs : Int) * 1 + 0) 1 0 false s) => nsP_one (s := s) hg (by
    rw [Int.mul_one, Int.add_zero] at h
    exact h))
  have RSG : RowKit.Hid (∀ (s : Int) (hs : s = nsP e f u) (w : World), Calls Try.prog 48 #[fmt e f, .int .i64 s, .bool false] w fun rv w' => rv = .returned (.int .i64 (s)) ∧ Ext w w') := fun s hs w => by
    obtain ⟨s0, s1⟩ := nsP_bd (u := u) hg
    have gb := gr_bd2 hg
    have := rdSigned_any e f s false hg (by omega) (by omega) w
    exact this
  have EZ : RowKit.Hid (∀ (s : Int) (hs : s = nsP e f u) (w : World), Calls Try.prog 62 #[fmt e f, .int .i64 (s)] w fun rv w' => rv = .returned (.int .i64 (nsV e f u)) ∧ Ext w w') := fun s hs w => by
    obtain ⟨s0, s1⟩ := nsP_bd (u := u) hg
    obtain ⟨q1, q2, q3, q4⟩ := s_parts hg s0 s1
    have pp := pw_pos (e + f)
    have := exZero_any e f (s) hg (by omega) w
    have e1 : ezV e f (s) = nsV e f u := by
      unfold ezV nsV exV
      rw [hs]
      rw [q3, if_neg (of_decide_eq_false hd)]
    rw [e1] at this
    exact this
  go_enter Try.func109, Try.ntmps109
  go_wp2_with fail
  go_region_held3 (fun w' => w'.cell? ⟨w.heap.size, 0, none⟩ = some (.int .i64 e) ∧ w'.cell? ⟨w.heap.size, 1, none⟩ = some (.int .i64 f) ∧ w.heap.size < w'.heap.size) ((refine ⟨?_, ?_, ?_⟩ <;> first | with_reducible assumption | ((rw [cell_setRow_far _ _ _ _ _ (by omega)]); with_reducible assumption) | ((rw [setRow_size]); with_reducible assumption) | ((repeat rw [World.cell?_setCell_far _ _ _ _ (by simp)]); with_reducible assumption) | (simp; done) | (simp [World.setCell]; first | done | omega) | (simp [go_sem, World.cell?_alloc_past, World.cell?_setCell_far, *]; done))) ((first | (go_at_call 83; refine (l1Abs_nat u (by omega) (by omega) _).mono ?_; rintro rv w1 ⟨rfl, rfl⟩) | (go_at_call 49; refine (rdSize_any e f (u.natAbs : Int) 0 1 0 false hg (by omega) (by omega) (by omega) (by omega) (by omega) (by omega) (by omega) _).mono ?_; rintro rv w1 ⟨s, rfl, hq, hb⟩; have HQ := Lib.hid (EQ.out s hq); clear hq; have ns : w.heap.size < w1.heap.size := hb.ltK; have n0 : w1.cell? ⟨w.heap.size, 0, none⟩ = some (.int .i64 e) := hb.cellK; have n1 : w1.cell? ⟨w.heap.size, 1, none⟩ = some (.int .i64 f) := hb.cellK; (first | (have nx := Ext.trans hx hb; clear hx) | (have nx := Ext.trans (hx.alloc _) hb; clear hx) | (have nx := Ext.trans hx.drew hb; clear hx) | have nx := hb); clear hb; try clear hs; try clear g0; try clear g1; have hx := nx; clear nx; have hs := ns; clear ns; have g0 := n0; clear n0; have g1 := n1; clear n1) | (go_at_call 48; refine (RSG.out _ HQ.out _).mono ?_; rintro rv w1 ⟨rfl, hb⟩; have ns : w.heap.size < w1.heap.size := hb.ltK; have n0 : w1.cell? ⟨w.heap.size, 0, none⟩ = some (.int .i64 e) := hb.cellK; have n1 : w1.cell? ⟨w.heap.size, 1, none⟩ = some (.int .i64 f) := hb.cellK; (first | (have nx := Ext.trans hx hb; clear hx) | (have nx := Ext.trans (hx.alloc _) hb; clear hx) | (have nx := Ext.trans hx.drew hb; clear hx) | have nx := hb); clear hb; try clear hs; try clear g0; try clear g1; have hx := nx; clear nx; have hs := ns; clear ns; have g0 := n0; clear n0; have g1 := n1; clear n1) | (go_at_call 62; refine (EZ.out _ HQ.out _).mono ?_; rintro rv w1 ⟨rfl, hb⟩; have ns : w.heap.size < w1.heap.size := hb.ltK; have n0 : w1.cell? ⟨w.heap.size, 0, none⟩ = some (.int .i64 e) := hb.cellK; have n1 : w1.cell? ⟨w.heap.size, 1, none⟩ = some (.int .i64 f) := hb.cellK; (first | (have nx := Ext.trans hx hb; clear hx) | (have nx := Ext.trans (hx.alloc _) hb; clear hx) | (have nx := Ext.trans hx.drew hb; clear hx) | have nx := hb); clear hb; try clear hs; try clear g0; try clear g1; have hx := nx; clear nx; have hs := ns; clear ns; have g0 := n0; clear n0; have g1 := n1; clear n1)))
  go_wp2_with fail
  go_ret
  exact ⟨rfl, Ext.auK⟩
end Go.Proofs.Ytjebechmedhidaa

namespace Go.Proofs.Ytjebechmedhidaa
open Go Go.RowKit
set_option linter.unusedSimpArgs false
set_option linter.unusedVariables false
set_option maxRecDepth 100000

theorem exOf_any (e f u : Int) (hg : goodB e f = true) (h1 : -35184372088832 ≤ u) (h2 : u ≤ 35184372088832) (w : World) : Calls Try.prog 109 #[fmt e f, .int .i64 u] w fun rv w' => rv = .returned (.int .i64 (nsV e f u)) ∧ Ext w w' := by
  by_cases h : u < 0
  · exact exOf_n e f u hg h1 h2 (decide_eq_true h) w
  · exact exOf_p e f u hg h1 h2 (decide_eq_false h) w

set_option maxHeartbeats 1600000 in
theorem exSum_any (e f a b : Int) (hg : (finB e f a && finB e f b) = true) (w : World) : Calls Try.prog 55 #[fmt e f, .int .i64 a, .int .i64 b] w fun rv w' => rv = .returned (.tuple #[.int .i64 (nsV e f ((unitsV e f a) + (unitsV e f b))), .bool (nsB e f ((unitsV e f a) + (unitsV e f b)))]) ∧ Ext w w' := by
  obtain ⟨ha, hb2⟩ : finB e f a = true ∧ finB e f b = true := by simpa using hg
  obtain ⟨hgg, _⟩ := fin_size ha
  have hap := (fin_pat ha).1
  have hbp := (fin_pat hb2).1
  obtain ⟨sm1, sm2, sm3, sm4, sm5, sm6⟩ := ns_small ha hb2
  have kw : IntKind.i64.wrap ((unitsV e f a) + (unitsV e f b)) = ((unitsV e f a) + (unitsV e f b)) := IntWalk.i64_in _ (by omega)
  obtain ⟨np, nf⟩ := ns_pat (u := ((unitsV e f a) + (unitsV e f b))) hgg
  have EOA := Lib.hid (fun w => exOf_any e f ((unitsV e f a) + (unitsV e f b)) hgg (by omega) (by omega) w)
  have EFA := Lib.hid (fun w => exFits_any e f _ np w)
  rw [nf] at EFA
  clear nf np sm1 sm2 sm3 sm4 sm5 sm6 ha hb2 hg
  go_enter Try.func55, Try.ntmps55
  go_wp2_with fail
  go_region_held3 (fun w' => w'.cell? ⟨w.heap.size, 0, none⟩ = some (.int .i64 e) ∧ w'.cell? ⟨w.heap.size, 1, none⟩ = some (.int .i64 f) ∧ w.heap.size < w'.heap.size) ((refine ⟨?_, ?_, ?_⟩ <;> first | with_reducible assumption | ((rw [cell_setRow_far _ _ _ _ _ (by omega)]); with_reducible assumption) | ((rw [setRow_size]); with_reducible assumption) | ((repeat rw [World.cell?_setCell_far _ _ _ _ (by simp)]); with_reducible assumption) | (simp; done) | (simp [World.setCell]; first | done | omega) | (simp [go_sem, World.cell?_alloc_past, World.cell?_setCell_far, *]; done))) ((first | (go_at_call 100; (with_reducible refine (fmUnits_any e f a hap _).mono ?_); rintro rv w1 ⟨rfl, hb⟩; have ns : w.heap.size < w1.heap.size := hb.ltK; have n0 : w1.cell? ⟨w.heap.size, 0, none⟩ = some (.int .i64 e) := hb.cellK; have n1 : w1.cell? ⟨w.heap.size, 1, none⟩ = some (.int .i64 f) := hb.cellK; (first | (have nx := Ext.trans hx hb; clear hx) | (have nx := Ext.trans (hx.alloc _) hb; clear hx) | (have nx := Ext.trans hx.drew hb; clear hx) | have nx := hb); clear hb; try clear hs; try clear g0; try clear g1; have hx := nx; clear nx; have hs := ns; clear ns; have g0 := n0; clear n0; have g1 := n1; clear n1) | (go_at_call 100; (with_reducible refine (fmUnits_any e f b hbp _).mono ?_); rintro rv w1 ⟨rfl, hb⟩; have ns : w.heap.size < w1.heap.size := hb.ltK; have n0 : w1.cell? ⟨w.heap.size, 0, none⟩ = some (.int .i64 e) := hb.cellK; have n1 : w1.cell? ⟨w.heap.size, 1, none⟩ = some (.int .i64 f) := hb.cellK; (first | (have nx := Ext.trans hx hb; clear hx) | (have nx := Ext.trans (hx.alloc _) hb; clear hx) | (have nx := Ext.trans hx.drew hb; clear hx) | have nx := hb); clear hb; try clear hs; try clear g0; try clear g1; have hx := nx; clear nx; have hs := ns; clear ns; have g0 := n0; clear n0; have g1 := n1; clear n1) | (go_at_call 109; refine (EOA.out _).mono ?_; rintro rv w1 ⟨rfl, hb⟩; have ns : w.heap.size < w1.heap.size := hb.ltK; have n0 : w1.cell? ⟨w.heap.size, 0, none⟩ = some (.int .i64 e) := hb.cellK; have n1 : w1.cell? ⟨w.heap.size, 1, none⟩ = some (.int .i64 f) := hb.cellK; (first | (have nx := Ext.trans hx hb; clear hx) | (have nx := Ext.trans (hx.alloc _) hb; clear hx) | (have nx := Ext.trans hx.drew hb; clear hx) | have nx := hb); clear hb; try clear hs; try clear g0; try clear g1; have hx := nx; clear nx; have hs := ns; clear ns; have g0 := n0; clear n0; have g1 := n1; clear n1)))
  go_wp2_with (go_at_call 64; refine (EFA.out _).mono ?_; rintro rv w1 ⟨rfl, hb⟩; have ns : w.heap.size < w1.heap.size := hb.ltK; have n0 : w1.cell? ⟨w.heap.size, 0, none⟩ = some (.int .i64 e) := hb.cellK; have n1 : w1.cell? ⟨w.heap.size, 1, none⟩ = some (.int .i64 f) := hb.cellK; (first | (have nx := Ext.trans hx hb; clear hx) | (have nx := Ext.trans (hx.alloc _) hb; clear hx) | (have nx := Ext.trans hx.drew hb; clear hx) | have nx := hb); clear hb; try clear hs; try clear g0; try clear g1; have hx := nx; clear nx; have hs := ns; clear ns; have g0 := n0; clear n0; have g1 := n1; clear n1)
  try (go_region_held3 (fun w' => w'.cell? ⟨w.heap.size, 0, none⟩ = some (.int .i64 e) ∧ w'.cell? ⟨w.heap.size, 1, none⟩ = some (.int .i64 f) ∧ w.heap.size < w'.heap.size) ((refine ⟨?_, ?_, ?_⟩ <;> first | with_reducible assumption | ((rw [cell_setRow_far _ _ _ _ _ (by omega)]); with_reducible assumption) | ((rw [setRow_size]); with_reducible assumption) | ((repeat rw [World.cell?_setCell_far _ _ _ _ (by simp)]); with_reducible assumption) | (simp; done) | (simp [World.setCell]; first | done | omega) | (simp [go_sem, World.cell?_alloc_past, World.cell?_setCell_far, *]; done))) ((first | (go_at_call 64; refine (EFA.out _).mono ?_; rintro rv w1 ⟨rfl, hb⟩; have ns : w.heap.size < w1.heap.size := hb.ltK; have n0 : w1.cell? ⟨w.heap.size, 0, none⟩ = some (.int .i64 e) := hb.cellK; have n1 : w1.cell? ⟨w.heap.size, 1, none⟩ = some (.int .i64 f) := hb.cellK; (first | (have nx := Ext.trans hx hb; clear hx) | (have nx := Ext.trans (hx.alloc _) hb; clear hx) | (have nx := Ext.trans hx.drew hb; clear hx) | have nx := hb); clear hb; try clear hs; try clear g0; try clear g1; have hx := nx; clear nx; have hs := ns; clear ns; have g0 := n0; clear n0; have g1 := n1; clear n1))))
  try go_wp2_with fail
  go_ret2
  exact ⟨rfl, Ext.auK⟩

theorem near_two (e f a b : Int) (ha : finB e f a = true) (hb2 : finB e f b = true) (gl cap : Nat) (w : World) (c0 : w.cell? ⟨gl, 0, none⟩ = some (.float .f32 (cw (unitsV e f a)))) (c1 : w.cell? ⟨gl, 1, none⟩ = some (.float .f32 (cw (unitsV e f b)))) (hgl : gl < w.heap.size) :
    Calls Try.prog 58 #[fmt e f, .slice (some ⟨gl, 0, none⟩) 2 cap] w fun rv w' => rv = .returned (.float .f32 (nrW e f (decide (((unitsV e f a) + (unitsV e f b)) < 0)) (nsP e f ((unitsV e f a) + (unitsV e f b))))) ∧ Ext w w' :=
  near2G e f _ _ _ _ _ _ gl cap (add_zero_cw (ok_units ha)) (fun w => nearest_val e f a ha w) (add_cw (ok_units ha) (ok_units hb2)) (fun w => nearest_sum e f a b ha hb2 w) w c0 c1 hgl
end Go.Proofs.Ytjebechmedhidaa

namespace Go.Proofs.Ytjebechmedhidaa
open Go Go.RowKit
set_option linter.unusedSimpArgs false
set_option linter.unusedVariables false
set_option maxRecDepth 100000

/-- The value of a near sum, in units. -/
noncomputable def nsU (e f u : Int) : Int := if u < 0 then -mgV f (nsP e f u) else mgV f (nsP e f u)

theorem nsU_abs {e f u : Int} (hg : goodB e f = true) (hB : nsB e f u = true) : ((nsU e f u).natAbs : Int) = mgV f (nsP e f u) ∧ decide (nsU e f u < 0) = decide (u < 0) := by
  obtain ⟨s0, s1⟩ := nsP_bd (u := u) hg
  have hs : nsP e f u ≤ grV e f := of_decide_eq_true hB
  have hb := mg_bd hg s0 hs
  have hf := (good_iff.1 hg).2.2.1
  unfold nsU
  by_cases h : u < 0
  · rw [if_pos h]
    have z : nsP e f u ≠ 0 := fun z => by have := (nsP_zero hg).1 z; omega
    have := mg_mono f 1 (nsP e f u) hf (by decide) (by omega)
    have c2 := (pw_facts (good_iff.1 hg).1 (good_iff.1 hg).2.1 (good_iff.1 hg).2.2.1 (good_iff.1 hg).2.2.2).2.2.1.1
    rw [mg_small f 1 (by decide) (by omega)] at this
    exact ⟨by omega, by rw [decide_eq_decide]; omega⟩
  · rw [if_neg h]
    exact ⟨by omega, by rw [decide_eq_decide]; omega⟩

theorem ns_units {e f u : Int} (hg : goodB e f = true) (hB : nsB e f u = true) : unitsV e f (nsV e f u) = nsU e f u := by
  obtain ⟨s0, s1⟩ := nsP_bd (u := u) hg
  obtain ⟨q1, q2, q3, q4⟩ := s_parts hg s0 s1
  have pp := pw_pos (e + f)
  obtain ⟨np, _⟩ := ns_pat (u := u) hg
  have lt : nsP e f u < pw (e + f) := by
    have := Int.emod_lt_of_pos (nsP e f u) (show 0 < pw (e + f) by omega)
    omega
  unfold unitsV
  rw [mag_mod np]
  unfold nsU nsV exV
  by_cases z : nsP e f u = 0
  · rw [if_pos z, z]
    simp [mg_zero]
  · rw [if_neg z]
    by_cases h : u < 0
    · rw [if_pos h, if_pos h, Int.add_comm, Int.add_emod_right, q3]
      have e1 : (nsP e f u + pw (e + f)) / pw (e + f) = 1 := by
        rw [Int.add_ediv_of_dvd_right (Int.dvd_refl _), q2, Int.ediv_self (by omega)]; rfl
      rw [e1]; rfl
    · rw [if_neg h, if_neg h, q2, q3]; rfl

theorem nr_cw {e f u : Int} (hg : goodB e f = true) (hB : nsB e f u = true) : nrW e f (decide (u < 0)) (nsP e f u) = cw (nsU e f u) := by
  obtain ⟨h1, h2⟩ := nsU_abs hg hB
  rw [cw_mg h1, h2]
  unfold nrW
  rw [if_pos (of_decide_eq_true hB)]

theorem sub_cw {a b : Int} (ha : Ok Ieee.single (a.natAbs * 2 ^ 149)) (hb : Ok Ieee.single (b.natAbs * 2 ^ 149)) : floatBits .sub .f32 (cw a) (cw b) = some (cw (a - b)) := by
  have h := sub_sw (s := decide (a < 0)) (t := decide (b < 0)) ha hb
  have hn : ∀ (t : Bool) (v : Nat), sv (!t) v = -sv t v := by
    intro t v
    cases t <;> simp [sv]
  rw [hn, sv_cw, sv_cw, ← Int.neg_mul, ← Int.add_mul, show a + -b = a - b by omega] at h
  have hp := pw_pos 149
  have p149 : pw 149 = ((2 ^ 149 : Nat) : Int) := (pw_cast 149).symm
  show Ieee.single.sub _ _ = _
  unfold cw
  rw [h]
  have e1 : ((a - b) * pw 149).natAbs = (a - b).natAbs * 2 ^ 149 := by
    rw [Int.natAbs_mul, p149, Int.natAbs_natCast]
  rw [e1]
  congr 2
  by_cases z : a - b = 0
  · rw [z, Int.zero_mul, if_pos rfl]
    have : a = b := by omega
    subst this
    cases decide (a < 0) <;> rfl
  · have z2 : (a - b) * pw 149 ≠ 0 := fun h => (Int.mul_eq_zero.1 h).elim z (by omega)
    rw [if_neg z2, decide_eq_decide]
    constructor
    · intro h
      apply Int.lt_of_not_ge
      intro h3
      have := Int.mul_nonneg h3 (show (0 : Int) ≤ pw 149 by omega)
      omega
    · intro h; exact Int.mul_neg_of_neg_of_pos h (by omega)
end Go.Proofs.Ytjebechmedhidaa

namespace Go.Proofs.Ytjebechmedhidaa
open Go Go.RowKit
set_option linter.unusedSimpArgs false
set_option linter.unusedVariables false
set_option maxRecDepth 100000

attribute [local go_sem] run_store_flt

theorem isNaN_o (b : Nat) (o : FloatKind.f32.format.order b b = some .eq) (w : World) : Calls Try.prog 167 #[.float .f32 b] w fun rv w' => rv = .returned (.bool false) ∧ w = w' := by
  go_enter Try.func167, Try.ntmps167
  go_wp2
  go_ret
  exact ⟨rfl, rfl⟩

theorem compare_gt (a b : Nat) (oa : FloatKind.f32.format.order a a = some .eq) (ob : FloatKind.f32.format.order b b = some .eq) (o : FloatKind.f32.format.order a b = some .gt) (w : World) : Calls Try.prog 156 #[.float .f32 a, .float .f32 b] w fun rv w' => rv = .returned (.int .i64 1) ∧ w = w' := by
  have NA := Lib.hid (fun w => isNaN_o a oa w)
  have NB := Lib.hid (fun w => isNaN_o b ob w)
  go_enter Try.func156, Try.ntmps156
  go_wp2_with (first | (go_at_call 167; refine (NA.out _).mono ?_; rintro rv w1 ⟨rfl, rfl⟩) | (go_at_call 167; refine (NB.out _).mono ?_; rintro rv w1 ⟨rfl, rfl⟩))
  go_ret
  exact ⟨rfl, rfl⟩

theorem read_inf0 : Ieee.single.read 2139095040 = .infinity false := by decide

theorem inf_gt {v : Nat} (h : Ok Ieee.single v) : FloatKind.f32.format.order 2139095040 (fw Ieee.single v) = some .gt := by
  have hf : FloatKind.f32.format = Ieee.single := rfl
  rw [hf]
  obtain ⟨m, k, h1, _⟩ := read_fw h
  unfold Ieee.Format.order
  rw [read_inf0, h1]
  rfl

theorem inf_less {v : Nat} (h : Ok Ieee.single v) : floatBits .sub .f32 2139095040 (fw Ieee.single v) = some 2139095040 := by
  obtain ⟨m, k, h1, _⟩ := read_fw h
  show Ieee.single.sub _ _ = _
  unfold Ieee.Format.sub
  rw [read_inf0, h1]
  show some (Ieee.single.write (.infinity false)) = _
  decide

theorem inf_self : FloatKind.f32.format.order 2139095040 2139095040 = some .eq := by decide +kernel

theorem fw_self {v : Nat} (h : Ok Ieee.single v) : FloatKind.f32.format.order (fw Ieee.single v) (fw Ieee.single v) = some .eq := by
  have hf : FloatKind.f32.format = Ieee.single := rfl
  rw [hf, order_fw h h, cmp_eq rfl]

theorem min_inf {P : Program} {v : Nat} (h : Ok Ieee.single v) (ts : Array TypeId) (t : TypeId) (w : World) :
    (Builtin.min_ ts t #[.float .f32 2139095040, .float .f32 (fw Ieee.single v)]).run P w = .ok (.float .f32 (fw Ieee.single v)) w := by
  have o := inf_gt h
  have e : Builtin.min_ ts t #[.float .f32 2139095040, .float .f32 (fw Ieee.single v)] = Builtin.min2 (.float .f32 2139095040) (.float .f32 (fw Ieee.single v)) := by simp [Builtin.min_]
  have P1 : ∀ x : Nat, (pure (Value.float .f32 x) : Sem Value).run P w = .ok (.float .f32 x) w := fun x => rfl
  rw [e]
  unfold Builtin.min2
  simp only [o]
  exact P1 _

set_option maxHeartbeats 1600000 in
theorem spotOf_inf (e f : Int) (hg : goodB e f = true) (w : World) :
    Calls Try.prog 118 #[fmt e f, .float .f32 2139095040] w fun rv w' => rv = .returned (.agg #[.int .i64 (grV e f), .float .f32 2139095040, .float .f32 (fw Ieee.single (stN f (grV e f)))]) ∧ Ext w w' := by
  obtain ⟨gg0, gg1, gg2⟩ := gr_bd2 hg
  have p0 : 0 ≤ grV e f := by omega
  have p1 := Int.le_refl (grV e f)
  obtain ⟨okG, ltG⟩ := mgN_ok (p := grV e f) hg p0 p1
  have mn : ∀ (ts : Array TypeId) (t : TypeId) (w : World), (Builtin.min_ ts t #[.float .f32 2139095040, .float .f32 (fw Ieee.single (mgN f (grV e f)))]).run Try.prog w = .ok (.float .f32 (fw Ieee.single (mgN f (grV e f)))) w :=
    fun ts t w => min_inf (P := Try.prog) okG ts t w
  have hff : ∀ w, Calls Try.prog 153 #[fmt e f, .float .f32 (fw Ieee.single (mgN f (grV e f)))] w fun rv w' => rv = .returned (.agg #[.int .i64 0, .int .i64 (grV e f / pw f), .int .i64 (grV e f % pw f)]) ∧ Ext w w' := by
    intro w
    have := ffP e f (mgN f (grV e f)) hg okG w
    rw [Nat.min_self] at this
    refine this.mono ?_
    rintro rv w' ⟨q, rfl, hq, hb⟩
    have hf := (good_iff.1 hg).2.2.1
    have hP := pw_pos 149
    have hc := mgN_cast f (grV e f) (mg_bd hg p0 p1).1
    obtain ⟨q0, q1, q2, q3⟩ := hq
    rw [hc] at q2 q3
    have : q = grV e f := by
      rcases q3 with q3 | q3
      · omega
      · apply Int.le_antisymm q1
        apply Int.le_of_not_gt
        intro g
        have := Int.mul_le_mul_of_nonneg_right (mg_mono f (q + 1) (grV e f) hf (by omega) (by omega)) (show 0 ≤ pw 149 by omega)
        omega
    rw [this]
    exact ⟨rfl, hb⟩
  have hfp := fun w => floatOf_p e f (grV e f) hg p0 p1 w
  have hpo := fun w => patternOf_p e f (grV e f) hg p0 p1 w
  have hst := fun w => step_p e f (grV e f) hg p0 p1 w
  have hgr := fun w => greatest_gr e f hg w
  have hfg := fun w => fieldsOf_gr e f (grV e f) hg p0 p1 w
  have sw := (stN_ok hg p0 p1).2
  have sb0 := inf_less okG
  have sb : ∀ (t : TypeId) (w : World), (binOp .sub t (.float .f32 2139095040) (.float .f32 (fw Ieee.single (mgN f (grV e f))))).run Try.prog w = .ok (.float .f32 2139095040) w := fun t w => run_float_arith w .sub t .f32 _ _ _ sb0
  clear sb0 gg0 gg1 gg2 p1 okG ltG
  have HFF := Lib.hid hff; clear hff
  have HFP := Lib.hid hfp; clear hfp
  have HPO := Lib.hid hpo; clear hpo
  have HST := Lib.hid hst; clear hst
  have HGR := Lib.hid hgr; clear hgr
  have HGF := Lib.hid hfg; clear hfg
  generalize fw Ieee.single (mgN f (grV e f)) = m2 at *
  generalize fw Ieee.single (stN f (grV e f)) = m4 at *
  generalize stV f (grV e f) = st at *
  generalize hX : grV e f / pw f = X at *
  generalize hR : grV e f % pw f = R at *
  have HX := Lib.hid hX; clear hX
  have HR := Lib.hid hR; clear hR
  generalize grV e f = p at *
  go_enter Try.func118, Try.ntmps118
  go_wp2_with (go_at_call 152; refine (HGR.out _).mono ?_; rintro rv w1 ⟨rfl, hb⟩; have ns : w.heap.size + 1 < w1.heap.size := hb.ltK; have n0 : w1.cell? ⟨w.heap.size, 0, none⟩ = some (.int .i64 e) := hb.cellK; have n1 : w1.cell? ⟨w.heap.size, 1, none⟩ = some (.int .i64 f) := hb.cellK; have n2 : w1.cell? ⟨w.heap.size + 1, 0, none⟩ = some (.int .i64 0) := hb.cellK; have n3 : w1.cell? ⟨w.heap.size + 1, 1, none⟩ = some (.float .f32 0) := hb.cellK; have n4 : w1.cell? ⟨w.heap.size + 1, 2, none⟩ = some (.float .f32 0) := hb.cellK; have nz0 : w1.frozen? ⟨w.heap.size + 1, 0, none⟩ = false := hb.frzK; have nz1 : w1.frozen? ⟨w.heap.size + 1, 1, none⟩ = false := hb.frzK; have nz2 : w1.frozen? ⟨w.heap.size + 1, 2, none⟩ = false := hb.frzK; (first | (have nx := Ext.trans hx hb; clear hx) | (have nx := Ext.trans (hx.alloc _) hb; clear hx) | (have nx := Ext.trans hx.drew hb; clear hx) | have nx := hb); clear hb; try clear hs; try clear g0; try clear g1; try clear g2; try clear g3; try clear g4; try clear z0; try clear z1; try clear z2; have hx := nx; clear nx; have hs := ns; clear ns; have g0 := n0; clear n0; have g1 := n1; clear n1; have g2 := n2; clear n2; have g3 := n3; clear n3; have g4 := n4; clear n4; have z0 := nz0; clear nz0; have z1 := nz1; clear nz1; have z2 := nz2; clear nz2)
  go_region_held3 (fun w' => w'.cell? ⟨w.heap.size, 0, none⟩ = some (.int .i64 e) ∧ w'.cell? ⟨w.heap.size, 1, none⟩ = some (.int .i64 f) ∧ w'.cell? ⟨w.heap.size + 1, 0, none⟩ = some (.int .i64 0) ∧ w'.cell? ⟨w.heap.size + 1, 1, none⟩ = some (.float .f32 0) ∧ w'.cell? ⟨w.heap.size + 1, 2, none⟩ = some (.float .f32 0) ∧ w.heap.size + 1 < w'.heap.size ∧ w'.frozen? ⟨w.heap.size + 1, 0, none⟩ = false ∧ w'.frozen? ⟨w.heap.size + 1, 1, none⟩ = false ∧ w'.frozen? ⟨w.heap.size + 1, 2, none⟩ = false) ((refine ⟨?_, ?_, ?_, ?_, ?_, ?_, ?_, ?_, ?_⟩ <;> first | with_reducible assumption | ((rw [cell_setRow_far _ _ _ _ _ (by omega)]); with_reducible assumption) | ((rw [setRow_size]); with_reducible assumption) | ((repeat rw [World.cell?_setCell_far _ _ _ _ (by simp)]); with_reducible assumption) | (simp; done) | (simp [World.setCell]; first | done | omega) | (simp [go_sem, World.cell?_alloc_past, World.cell?_setCell_far, *]; done))) ((first | (go_at_call 148; refine (HGF.out _).mono ?_; rintro rv w1 ⟨rfl, hb⟩; have ns : w.heap.size + 1 < w1.heap.size := hb.ltK; have n0 : w1.cell? ⟨w.heap.size, 0, none⟩ = some (.int .i64 e) := hb.cellK; have n1 : w1.cell? ⟨w.heap.size, 1, none⟩ = some (.int .i64 f) := hb.cellK; have n2 : w1.cell? ⟨w.heap.size + 1, 0, none⟩ = some (.int .i64 0) := hb.cellK; have n3 : w1.cell? ⟨w.heap.size + 1, 1, none⟩ = some (.float .f32 0) := hb.cellK; have n4 : w1.cell? ⟨w.heap.size + 1, 2, none⟩ = some (.float .f32 0) := hb.cellK; have nz0 : w1.frozen? ⟨w.heap.size + 1, 0, none⟩ = false := hb.frzK; have nz1 : w1.frozen? ⟨w.heap.size + 1, 1, none⟩ = false := hb.frzK; have nz2 : w1.frozen? ⟨w.heap.size + 1, 2, none⟩ = false := hb.frzK; (first | (have nx := Ext.trans hx hb; clear hx) | (have nx := Ext.trans (hx.alloc _) hb; clear hx) | (have nx := Ext.trans hx.drew hb; clear hx) | have nx := hb); clear hb; try clear hs; try clear g0; try clear g1; try clear g2; try clear g3; try clear g4; try clear z0; try clear z1; try clear z2; have hx := nx; clear nx; have hs := ns; clear ns; have g0 := n0; clear n0; have g1 := n1; clear n1; have g2 := n2; clear n2; have g3 := n3; clear n3; have g4 := n4; clear n4; have z0 := nz0; clear nz0; have z1 := nz1; clear nz1; have z2 := nz2; clear nz2) | (go_at_call 123; refine (HFP.out _).mono ?_; rintro rv w1 ⟨rfl, hb⟩; have ns : w.heap.size + 1 < w1.heap.size := hb.ltK; have n0 : w1.cell? ⟨w.heap.size, 0, none⟩ = some (.int .i64 e) := hb.cellK; have n1 : w1.cell? ⟨w.heap.size, 1, none⟩ = some (.int .i64 f) := hb.cellK; have n2 : w1.cell? ⟨w.heap.size + 1, 0, none⟩ = some (.int .i64 0) := hb.cellK; have n3 : w1.cell? ⟨w.heap.size + 1, 1, none⟩ = some (.float .f32 0) := hb.cellK; have n4 : w1.cell? ⟨w.heap.size + 1, 2, none⟩ = some (.float .f32 0) := hb.cellK; have nz0 : w1.frozen? ⟨w.heap.size + 1, 0, none⟩ = false := hb.frzK; have nz1 : w1.frozen? ⟨w.heap.size + 1, 1, none⟩ = false := hb.frzK; have nz2 : w1.frozen? ⟨w.heap.size + 1, 2, none⟩ = false := hb.frzK; (first | (have nx := Ext.trans hx hb; clear hx) | (have nx := Ext.trans (hx.alloc _) hb; clear hx) | (have nx := Ext.trans hx.drew hb; clear hx) | have nx := hb); clear hb; try clear hs; try clear g0; try clear g1; try clear g2; try clear g3; try clear g4; try clear z0; try clear z1; try clear z2; have hx := nx; clear nx; have hs := ns; clear ns; have g0 := n0; clear n0; have g1 := n1; clear n1; have g2 := n2; clear n2; have g3 := n3; clear n3; have g4 := n4; clear n4; have z0 := nz0; clear nz0; have z1 := nz1; clear nz1; have z2 := nz2; clear nz2)))
  go_wp2_with (go_at_call 153; refine (HFF.out _).mono ?_; rintro rv w1 ⟨rfl, hb⟩; have hs0 : w.heap.size < w1.heap.size := hb.lt (by omega); have ns : w.heap.size + 1 < w1.heap.size := hb.ltK; have n0 : w1.cell? ⟨w.heap.size, 0, none⟩ = some (.int .i64 e) := hb.cellK; have n1 : w1.cell? ⟨w.heap.size, 1, none⟩ = some (.int .i64 f) := hb.cellK; have n2 : w1.cell? ⟨w.heap.size + 1, 0, none⟩ = some (.int .i64 0) := hb.cellK; have n3 : w1.cell? ⟨w.heap.size + 1, 1, none⟩ = some (.float .f32 0) := hb.cellK; have n4 : w1.cell? ⟨w.heap.size + 1, 2, none⟩ = some (.float .f32 0) := hb.cellK; have nz0 : w1.frozen? ⟨w.heap.size + 1, 0, none⟩ = false := hb.frzK; have nz1 : w1.frozen? ⟨w.heap.size + 1, 1, none⟩ = false := hb.frzK; have nz2 : w1.frozen? ⟨w.heap.size + 1, 2, none⟩ = false := hb.frzK; (first | (have nx := Ext.trans hx hb; clear hx) | (have nx := Ext.trans (hx.alloc _) hb; clear hx) | (have nx := Ext.trans hx.drew hb; clear hx) | have nx := hb); clear hb; try clear hs; try clear g0; try clear g1; try clear g2; try clear g3; try clear g4; try clear z0; try clear z1; try clear z2; have hx := nx; clear nx; have hs := ns; clear ns; have g0 := n0; clear n0; have g1 := n1; clear n1; have g2 := n2; clear n2; have g3 := n3; clear n3; have g4 := n4; clear n4; have z0 := nz0; clear nz0; have z1 := nz1; clear nz1; have z2 := nz2; clear nz2)
  go_wp2_with fail
  go_at_call 154; refine (HPO.out _).mono ?_; rintro rv w2 ⟨rfl, hb⟩; have ns : w1.heap.size < w2.heap.size := hb.ltK; have n0 : w2.cell? ⟨w.heap.size, 0, none⟩ = some (.int .i64 e) := hb.cellK; have n1 : w2.cell? ⟨w.heap.size, 1, none⟩ = some (.int .i64 f) := hb.cellK; have n2 : w2.cell? ⟨w1.heap.size, 0, none⟩ = some (.int .i64 0) := hb.cellK; have n3 : w2.cell? ⟨w1.heap.size, 1, none⟩ = some (.int .i64 X) := hb.cellK; have n4 : w2.cell? ⟨w1.heap.size, 2, none⟩ = some (.int .i64 R) := hb.cellK; have n5 : w2.cell? ⟨w.heap.size + 1, 0, none⟩ = some (.int .i64 0) := hb.cellK; have n6 : w2.cell? ⟨w.heap.size + 1, 1, none⟩ = some (.float .f32 0) := hb.cellK; have n7 : w2.cell? ⟨w.heap.size + 1, 2, none⟩ = some (.float .f32 0) := hb.cellK; have nz0 : w2.frozen? ⟨w.heap.size + 1, 0, none⟩ = false := (hb.frz _ _ (by first | with_reducible assumption | omega | (simp; done) | (simp; omega))).trans (by first | with_reducible assumption | (rw [frozen?_alloc_cells]; with_reducible assumption) | (simp [go_sem]; done) | (simp [go_sem]; with_reducible assumption)); have nz1 : w2.frozen? ⟨w.heap.size + 1, 1, none⟩ = false := (hb.frz _ _ (by first | with_reducible assumption | omega | (simp; done) | (simp; omega))).trans (by first | with_reducible assumption | (rw [frozen?_alloc_cells]; with_reducible assumption) | (simp [go_sem]; done) | (simp [go_sem]; with_reducible assumption)); have nz2 : w2.frozen? ⟨w.heap.size + 1, 2, none⟩ = false := (hb.frz _ _ (by first | with_reducible assumption | omega | (simp; done) | (simp; omega))).trans (by first | with_reducible assumption | (rw [frozen?_alloc_cells]; with_reducible assumption) | (simp [go_sem]; done) | (simp [go_sem]; with_reducible assumption)); (first | (have nx := Ext.trans hx hb; clear hx) | (have nx := Ext.trans (hx.alloc _) hb; clear hx) | (have nx := Ext.trans hx.drew hb; clear hx) | have nx := hb); clear hb; try clear hs; try clear g0; try clear g1; try clear g2; try clear g3; try clear g4; try clear g5; try clear g6; try clear g7; try clear z0; try clear z1; try clear z2; have hx := nx; clear nx; have hs := ns; clear ns; have g0 := n0; clear n0; have g1 := n1; clear n1; have g2 := n2; clear n2; have g3 := n3; clear n3; have g4 := n4; clear n4; have g5 := n5; clear n5; have g6 := n6; clear n6; have g7 := n7; clear n7; have z0 := nz0; clear nz0; have z1 := nz1; clear nz1; have z2 := nz2; clear nz2
  go_wp2_with (go_at_call 155; refine (HST.out _).mono ?_; rintro rv w3 ⟨rfl, hb⟩; have ns : w1.heap.size < w3.heap.size := hb.ltK; have n0 : w3.cell? ⟨w.heap.size, 0, none⟩ = some (.int .i64 e) := hb.cellK; have n1 : w3.cell? ⟨w.heap.size, 1, none⟩ = some (.int .i64 f) := hb.cellK; have n2 : w3.cell? ⟨w1.heap.size, 0, none⟩ = some (.int .i64 0) := hb.cellK; have n3 : w3.cell? ⟨w1.heap.size, 1, none⟩ = some (.int .i64 X) := hb.cellK; have n4 : w3.cell? ⟨w1.heap.size, 2, none⟩ = some (.int .i64 R) := hb.cellK; have n5 : w3.cell? ⟨w.heap.size + 1, 0, none⟩ = some (.int .i64 0) := hb.cellK; have n6 : w3.cell? ⟨w.heap.size + 1, 1, none⟩ = some (.float .f32 0) := hb.cellK; have n7 : w3.cell? ⟨w.heap.size + 1, 2, none⟩ = some (.float .f32 0) := hb.cellK; have nz0 : w3.frozen? ⟨w.heap.size + 1, 0, none⟩ = false := hb.frzK; have nz1 : w3.frozen? ⟨w.heap.size + 1, 1, none⟩ = false := hb.frzK; have nz2 : w3.frozen? ⟨w.heap.size + 1, 2, none⟩ = false := hb.frzK; (first | (have nx := Ext.trans hx hb; clear hx) | (have nx := Ext.trans (hx.alloc _) hb; clear hx) | (have nx := Ext.trans hx.drew hb; clear hx) | have nx := hb); clear hb; try clear hs; try clear g0; try clear g1; try clear g2; try clear g3; try clear g4; try clear g5; try clear g6; try clear g7; try clear z0; try clear z1; try clear z2; have hx := nx; clear nx; have hs := ns; clear ns; have g0 := n0; clear n0; have g1 := n1; clear n1; have g2 := n2; clear n2; have g3 := n3; clear n3; have g4 := n4; clear n4; have g5 := n5; clear n5; have g6 := n6; clear n6; have g7 := n7; clear n7; have z0 := nz0; clear nz0; have z1 := nz1; clear nz1; have z2 := nz2; clear nz2)
  go_wp2_with (go_at_call 123; refine (HFP.out _).mono ?_; rintro rv w4 ⟨rfl, hb⟩; have ns : w1.heap.size < w4.heap.size := hb.ltK; have n0 : w4.cell? ⟨w.heap.size, 0, none⟩ = some (.int .i64 e) := hb.cellK; have n1 : w4.cell? ⟨w.heap.size, 1, none⟩ = some (.int .i64 f) := hb.cellK; have n2 : w4.cell? ⟨w1.heap.size, 0, none⟩ = some (.int .i64 0) := hb.cellK; have n3 : w4.cell? ⟨w1.heap.size, 1, none⟩ = some (.int .i64 X) := hb.cellK; have n4 : w4.cell? ⟨w1.heap.size, 2, none⟩ = some (.int .i64 R) := hb.cellK; have n5 : w4.cell? ⟨w.heap.size + 1, 0, none⟩ = some (.int .i64 0) := hb.cellK; have n6 : w4.cell? ⟨w.heap.size + 1, 1, none⟩ = some (.float .f32 0) := hb.cellK; have n7 : w4.cell? ⟨w.heap.size + 1, 2, none⟩ = some (.float .f32 0) := hb.cellK; have nz0 : w4.frozen? ⟨w.heap.size + 1, 0, none⟩ = false := hb.frzK; have nz1 : w4.frozen? ⟨w.heap.size + 1, 1, none⟩ = false := hb.frzK; have nz2 : w4.frozen? ⟨w.heap.size + 1, 2, none⟩ = false := hb.frzK; (first | (have nx := Ext.trans hx hb; clear hx) | (have nx := Ext.trans (hx.alloc _) hb; clear hx) | (have nx := Ext.trans hx.drew hb; clear hx) | have nx := hb); clear hb; try clear hs; try clear g0; try clear g1; try clear g2; try clear g3; try clear g4; try clear g5; try clear g6; try clear g7; try clear z0; try clear z1; try clear z2; have hx := nx; clear nx; have hs := ns; clear ns; have g0 := n0; clear n0; have g1 := n1; clear n1; have g2 := n2; clear n2; have g3 := n3; clear n3; have g4 := n4; clear n4; have g5 := n5; clear n5; have g6 := n6; clear n6; have g7 := n7; clear n7; have z0 := nz0; clear nz0; have z1 := nz1; clear nz1; have z2 := nz2; clear nz2)
  refine bodyPost_ret (v := .agg #[.int .i64 p, .float .f32 2139095040, .float .f32 m4]) (by simp [results, Try.results118, go_sem, *]) rfl ⟨rfl, Ext.auK⟩

theorem rounded_inf (e f : Int) (hg : goodB e f = true) (w : World) : Calls Try.prog 120 #[.agg #[.int .i64 (grV e f), .float .f32 2139095040, .float .f32 (fw Ieee.single (stN f (grV e f)))], .int .i64 0, .bool false] w fun rv w' => rv = .returned (.int .i64 (grV e f + 1)) ∧ Ext w w' := by
  obtain ⟨gg0, gg1, gg2⟩ := gr_bd2 hg
  obtain ⟨okS, _⟩ := stN_ok (p := grV e f) hg (by omega) (Int.le_refl _)
  exact rounded_evenG (grV e f) _ _ false (by omega) (by omega) (by decide +kernel) 2139095040 (by decide +kernel) (fun w => compare_gt _ _ inf_self (fw_self okS) (inf_gt okS) w) w

set_option maxHeartbeats 3200000 in
theorem nearest_ii (e f : Int) (t : Bool) (hg : goodB e f = true) (w : World) :
    Calls Try.prog 70 #[fmt e f, .float .f32 (Ieee.single.word t Ieee.single.infRung)] w fun rv w' => rv = .returned (.float .f32 (Ieee.single.word t Ieee.single.infRung)) ∧ Ext w w' := by
  obtain ⟨gg0, gg1, gg2⟩ := gr_bd2 hg
  obtain ⟨p1, p2, p3, p4⟩ := s_parts (s := grV e f + 1) hg (by omega) (by omega)
  have ei : Ieee.double.infRung = 9218868437227405312 := by decide
  have sl := wide_inf t
  rw [ei] at sl
  have wi : floatToFloatBits .f32 (Ieee.single.word t Ieee.single.infRung) .f64 = some (Ieee.double.word t 9218868437227405312) := by cases t <;> decide +kernel
  have oi : FloatKind.f64.format.order (Ieee.double.word t 9218868437227405312) (Ieee.double.word t 9218868437227405312) = some .eq := by cases t <;> decide +kernel
  have hna := fun w => isNaN_sw _ oi w
  have hsz := fun w => sizeOf_inf t w
  have hsp := fun w => spotOf_inf e f hg w
  have hrd := fun w => rounded_inf e f hg w
  have hsh : ∀ w, Calls Try.prog 117 #[fmt e f, .int .i64 (grV e f + 1)] w fun rv w' => rv = .returned (.agg #[.int .i64 0, .int .i64 ((grV e f + 1) / pw f), .int .i64 ((grV e f + 1) % pw f), .int .i64 (pw e - 1)]) ∧ Ext w w' := by
    intro w
    have := shapeOf_any e f (grV e f + 1) hg (by omega) p1 w
    rw [p2, p3] at this
    exact this
  have hfi : ∀ w, Calls Try.prog 122 #[.agg #[.int .i64 0, .int .i64 ((grV e f + 1) / pw f), .int .i64 ((grV e f + 1) % pw f), .int .i64 (pw e - 1)]] w fun rv w' => rv = .returned (.bool false) ∧ Ext w w' := by
    intro w
    have := shFinite_any 0 ((grV e f + 1) / pw f) ((grV e f + 1) % pw f) (pw e - 1) w
    rw [decide_eq_false (fun h => by have := p4.1 h; omega)] at this
    exact this
  have hcs := fun w => copysign_any t 9218868437227405312 9218868437227405312 (by decide) (by decide) w
  have cv1 : ∀ w, (convert 69 80 (.float .f32 (Ieee.single.word t Ieee.single.infRung))).run Try.prog w = .ok (.float .f64 (Ieee.double.word t 9218868437227405312)) w := fun w =>
    run_convert_float_float w _ _ .f32 .f64 _ _ (by kernel_rfl) Try.underlying80 wi
  have cv3 : ∀ w, (convert 80 69 (.float .f64 (Ieee.double.word t 9218868437227405312))).run Try.prog w = .ok (.float .f32 (Ieee.single.word t Ieee.single.infRung)) w := fun w =>
    run_convert_float_float w _ _ .f64 .f32 _ _ (by kernel_rfl) Try.underlying69 sl
  clear sl wi oi ei p1 p2 p3 p4 gg0 gg1 gg2
  generalize fw Ieee.single (stN f (grV e f)) = st at *
  generalize grV e f + 1 = s at *
  generalize grV e f = p at *
  generalize Ieee.double.word t 9218868437227405312 = x2 at *
  generalize Ieee.single.word t Ieee.single.infRung = x4 at *
  have HNA := Lib.hid hna; clear hna
  have HSZ := Lib.hid hsz; clear hsz
  have HSP := Lib.hid hsp; clear hsp
  have HRD := Lib.hid hrd; clear hrd
  have HSH := Lib.hid hsh; clear hsh
  have HFI := Lib.hid hfi; clear hfi
  have HCS := Lib.hid hcs; clear hcs
  go_enter Try.func70, Try.ntmps70
  go_wp2_with (go_at_call 105; refine (HNA.out _).mono ?_; rintro rv w1 ⟨rfl, rfl⟩)
  go_cut [5] (fun s5 wx => ∃ g : Nat, s5 = .pointer (some ⟨g, 0, none⟩) ∧ wx.cell? ⟨g, 0, none⟩ = some (.int .i64 0) ∧ wx.cell? ⟨g, 1, none⟩ = some (.int .i64 (s / pw f)) ∧ wx.cell? ⟨g, 2, none⟩ = some (.int .i64 (s % pw f)) ∧ wx.cell? ⟨g, 3, none⟩ = some (.int .i64 (pw e - 1)) ∧ wx.cell? ⟨w.heap.size, 0, none⟩ = some (.int .i64 e) ∧ wx.cell? ⟨w.heap.size, 1, none⟩ = some (.int .i64 f) ∧ w.heap.size < wx.heap.size ∧ g < wx.heap.size ∧ Ext w wx)
  case first =>
    go_region_held3 (fun w' => w'.cell? ⟨w.heap.size, 0, none⟩ = some (.int .i64 e) ∧ w'.cell? ⟨w.heap.size, 1, none⟩ = some (.int .i64 f) ∧ w.heap.size < w'.heap.size) ((refine ⟨?_, ?_, ?_⟩ <;> first | with_reducible assumption | ((repeat first | rw [cell_set_far _ _ _ _ _ _ (by omega)] | rw [cell_alloc_before _ _ _ _ (by omega)] | rw [cell_alloc_drew _ _ _ _ (by omega)] | rw [cell_drew]); with_reducible assumption) | ((rw [cell_setRow_far _ _ _ _ _ (by omega)]); with_reducible assumption) | ((rw [setRow_size]); with_reducible assumption) | (simp; done) | (simp [World.setCell]; first | done | omega) | (simp [go_sem, World.cell?_alloc_past, World.cell?_setCell_far, *]; done))) ((first | (go_at_call 119; refine (HSZ.out _).mono ?_; rintro rv w1 ⟨rfl, hb⟩; (first | ((first | (have om0 := (hb.cells _ _ mt).trans m0) | (have om0 := (hb.cells _ _ (lt_alloc mt)).trans ((cell_alloc_before _ _ _ _ mt).trans m0))); (first | (have om1 := (hb.cells _ _ mt).trans m1) | (have om1 := (hb.cells _ _ (lt_alloc mt)).trans ((cell_alloc_before _ _ _ _ mt).trans m1))); (first | (have om2 := (hb.cells _ _ mt).trans m2) | (have om2 := (hb.cells _ _ (lt_alloc mt)).trans ((cell_alloc_before _ _ _ _ mt).trans m2))); (first | (have om3 := (hb.cells _ _ mt).trans m3) | (have om3 := (hb.cells _ _ (lt_alloc mt)).trans ((cell_alloc_before _ _ _ _ mt).trans m3))); (first | (have omz0 := (hb.frz _ _ mt).trans mz0) | (have omz0 := (hb.frz _ _ (lt_alloc mt)).trans ((frz_alloc_before _ _ _ _ mt).trans mz0))); (first | (have omz1 := (hb.frz _ _ mt).trans mz1) | (have omz1 := (hb.frz _ _ (lt_alloc mt)).trans ((frz_alloc_before _ _ _ _ mt).trans mz1))); (first | (have omz2 := (hb.frz _ _ mt).trans mz2) | (have omz2 := (hb.frz _ _ (lt_alloc mt)).trans ((frz_alloc_before _ _ _ _ mt).trans mz2))); (first | (have omz3 := (hb.frz _ _ mt).trans mz3) | (have omz3 := (hb.frz _ _ (lt_alloc mt)).trans ((frz_alloc_before _ _ _ _ mt).trans mz3))); (first | (have ot := hb.lt mt) | (have ot := hb.lt (lt_alloc mt))); clear m0 m1 m2 m3 mz0 mz1 mz2 mz3; have m0 := om0; have m1 := om1; have m2 := om2; have m3 := om3; have mz0 := omz0; have mz1 := omz1; have mz2 := omz2; have mz3 := omz3; have mt := ot; clear om0 om1 om2 om3 omz0 omz1 omz2 omz3 ot) | (have q2 := Ext.new4 hb; obtain ⟨m0, m1, m2, m3, mz0, mz1, mz2, mz3, mt⟩ := q2; try simp only [World.size_alloc, World.size_drew, Nat.add_assoc, Nat.reduceAdd] at m0 m1 m2 m3 mz0 mz1 mz2 mz3 mt) | (have q2 := Ext.new4d hb; obtain ⟨m0, m1, m2, m3, mz0, mz1, mz2, mz3, mt⟩ := q2; try simp only [World.size_alloc, World.size_drew, Nat.add_assoc, Nat.reduceAdd] at m0 m1 m2 m3 mz0 mz1 mz2 mz3 mt) | skip); have ns : w.heap.size < w1.heap.size := hb.ltK; have n0 : w1.cell? ⟨w.heap.size, 0, none⟩ = some (.int .i64 e) := hb.cellK; have n1 : w1.cell? ⟨w.heap.size, 1, none⟩ = some (.int .i64 f) := hb.cellK; (first | (have nx := Ext.trans hx hb; clear hx) | (have nx := Ext.trans (hx.alloc _) hb; clear hx) | (have nx := Ext.trans hx.drew hb; clear hx) | have nx := hb); clear hb; try clear hs; try clear g0; try clear g1; have hx := nx; clear nx; have hs := ns; clear ns; have g0 := n0; clear n0; have g1 := n1; clear n1) | (go_at_call 118; refine (HSP.out _).mono ?_; rintro rv w1 ⟨rfl, hb⟩; (first | ((first | (have om0 := (hb.cells _ _ mt).trans m0) | (have om0 := (hb.cells _ _ (lt_alloc mt)).trans ((cell_alloc_before _ _ _ _ mt).trans m0))); (first | (have om1 := (hb.cells _ _ mt).trans m1) | (have om1 := (hb.cells _ _ (lt_alloc mt)).trans ((cell_alloc_before _ _ _ _ mt).trans m1))); (first | (have om2 := (hb.cells _ _ mt).trans m2) | (have om2 := (hb.cells _ _ (lt_alloc mt)).trans ((cell_alloc_before _ _ _ _ mt).trans m2))); (first | (have om3 := (hb.cells _ _ mt).trans m3) | (have om3 := (hb.cells _ _ (lt_alloc mt)).trans ((cell_alloc_before _ _ _ _ mt).trans m3))); (first | (have omz0 := (hb.frz _ _ mt).trans mz0) | (have omz0 := (hb.frz _ _ (lt_alloc mt)).trans ((frz_alloc_before _ _ _ _ mt).trans mz0))); (first | (have omz1 := (hb.frz _ _ mt).trans mz1) | (have omz1 := (hb.frz _ _ (lt_alloc mt)).trans ((frz_alloc_before _ _ _ _ mt).trans mz1))); (first | (have omz2 := (hb.frz _ _ mt).trans mz2) | (have omz2 := (hb.frz _ _ (lt_alloc mt)).trans ((frz_alloc_before _ _ _ _ mt).trans mz2))); (first | (have omz3 := (hb.frz _ _ mt).trans mz3) | (have omz3 := (hb.frz _ _ (lt_alloc mt)).trans ((frz_alloc_before _ _ _ _ mt).trans mz3))); (first | (have ot := hb.lt mt) | (have ot := hb.lt (lt_alloc mt))); clear m0 m1 m2 m3 mz0 mz1 mz2 mz3; have m0 := om0; have m1 := om1; have m2 := om2; have m3 := om3; have mz0 := omz0; have mz1 := omz1; have mz2 := omz2; have mz3 := omz3; have mt := ot; clear om0 om1 om2 om3 omz0 omz1 omz2 omz3 ot) | (have q2 := Ext.new4 hb; obtain ⟨m0, m1, m2, m3, mz0, mz1, mz2, mz3, mt⟩ := q2; try simp only [World.size_alloc, World.size_drew, Nat.add_assoc, Nat.reduceAdd] at m0 m1 m2 m3 mz0 mz1 mz2 mz3 mt) | (have q2 := Ext.new4d hb; obtain ⟨m0, m1, m2, m3, mz0, mz1, mz2, mz3, mt⟩ := q2; try simp only [World.size_alloc, World.size_drew, Nat.add_assoc, Nat.reduceAdd] at m0 m1 m2 m3 mz0 mz1 mz2 mz3 mt) | skip); have ns : w.heap.size < w1.heap.size := hb.ltK; have n0 : w1.cell? ⟨w.heap.size, 0, none⟩ = some (.int .i64 e) := hb.cellK; have n1 : w1.cell? ⟨w.heap.size, 1, none⟩ = some (.int .i64 f) := hb.cellK; (first | (have nx := Ext.trans hx hb; clear hx) | (have nx := Ext.trans (hx.alloc _) hb; clear hx) | (have nx := Ext.trans hx.drew hb; clear hx) | have nx := hb); clear hb; try clear hs; try clear g0; try clear g1; have hx := nx; clear nx; have hs := ns; clear ns; have g0 := n0; clear n0; have g1 := n1; clear n1) | (go_at_call 120; refine (HRD.out _).mono ?_; rintro rv w1 ⟨rfl, hb⟩; (first | ((first | (have om0 := (hb.cells _ _ mt).trans m0) | (have om0 := (hb.cells _ _ (lt_alloc mt)).trans ((cell_alloc_before _ _ _ _ mt).trans m0))); (first | (have om1 := (hb.cells _ _ mt).trans m1) | (have om1 := (hb.cells _ _ (lt_alloc mt)).trans ((cell_alloc_before _ _ _ _ mt).trans m1))); (first | (have om2 := (hb.cells _ _ mt).trans m2) | (have om2 := (hb.cells _ _ (lt_alloc mt)).trans ((cell_alloc_before _ _ _ _ mt).trans m2))); (first | (have om3 := (hb.cells _ _ mt).trans m3) | (have om3 := (hb.cells _ _ (lt_alloc mt)).trans ((cell_alloc_before _ _ _ _ mt).trans m3))); (first | (have omz0 := (hb.frz _ _ mt).trans mz0) | (have omz0 := (hb.frz _ _ (lt_alloc mt)).trans ((frz_alloc_before _ _ _ _ mt).trans mz0))); (first | (have omz1 := (hb.frz _ _ mt).trans mz1) | (have omz1 := (hb.frz _ _ (lt_alloc mt)).trans ((frz_alloc_before _ _ _ _ mt).trans mz1))); (first | (have omz2 := (hb.frz _ _ mt).trans mz2) | (have omz2 := (hb.frz _ _ (lt_alloc mt)).trans ((frz_alloc_before _ _ _ _ mt).trans mz2))); (first | (have omz3 := (hb.frz _ _ mt).trans mz3) | (have omz3 := (hb.frz _ _ (lt_alloc mt)).trans ((frz_alloc_before _ _ _ _ mt).trans mz3))); (first | (have ot := hb.lt mt) | (have ot := hb.lt (lt_alloc mt))); clear m0 m1 m2 m3 mz0 mz1 mz2 mz3; have m0 := om0; have m1 := om1; have m2 := om2; have m3 := om3; have mz0 := omz0; have mz1 := omz1; have mz2 := omz2; have mz3 := omz3; have mt := ot; clear om0 om1 om2 om3 omz0 omz1 omz2 omz3 ot) | (have q2 := Ext.new4 hb; obtain ⟨m0, m1, m2, m3, mz0, mz1, mz2, mz3, mt⟩ := q2; try simp only [World.size_alloc, World.size_drew, Nat.add_assoc, Nat.reduceAdd] at m0 m1 m2 m3 mz0 mz1 mz2 mz3 mt) | (have q2 := Ext.new4d hb; obtain ⟨m0, m1, m2, m3, mz0, mz1, mz2, mz3, mt⟩ := q2; try simp only [World.size_alloc, World.size_drew, Nat.add_assoc, Nat.reduceAdd] at m0 m1 m2 m3 mz0 mz1 mz2 mz3 mt) | skip); have ns : w.heap.size < w1.heap.size := hb.ltK; have n0 : w1.cell? ⟨w.heap.size, 0, none⟩ = some (.int .i64 e) := hb.cellK; have n1 : w1.cell? ⟨w.heap.size, 1, none⟩ = some (.int .i64 f) := hb.cellK; (first | (have nx := Ext.trans hx hb; clear hx) | (have nx := Ext.trans (hx.alloc _) hb; clear hx) | (have nx := Ext.trans hx.drew hb; clear hx) | have nx := hb); clear hb; try clear hs; try clear g0; try clear g1; have hx := nx; clear nx; have hs := ns; clear ns; have g0 := n0; clear n0; have g1 := n1; clear n1) | (go_at_call 117; refine (HSH.out _).mono ?_; rintro rv w1 ⟨rfl, hb⟩; (first | ((first | (have om0 := (hb.cells _ _ mt).trans m0) | (have om0 := (hb.cells _ _ (lt_alloc mt)).trans ((cell_alloc_before _ _ _ _ mt).trans m0))); (first | (have om1 := (hb.cells _ _ mt).trans m1) | (have om1 := (hb.cells _ _ (lt_alloc mt)).trans ((cell_alloc_before _ _ _ _ mt).trans m1))); (first | (have om2 := (hb.cells _ _ mt).trans m2) | (have om2 := (hb.cells _ _ (lt_alloc mt)).trans ((cell_alloc_before _ _ _ _ mt).trans m2))); (first | (have om3 := (hb.cells _ _ mt).trans m3) | (have om3 := (hb.cells _ _ (lt_alloc mt)).trans ((cell_alloc_before _ _ _ _ mt).trans m3))); (first | (have omz0 := (hb.frz _ _ mt).trans mz0) | (have omz0 := (hb.frz _ _ (lt_alloc mt)).trans ((frz_alloc_before _ _ _ _ mt).trans mz0))); (first | (have omz1 := (hb.frz _ _ mt).trans mz1) | (have omz1 := (hb.frz _ _ (lt_alloc mt)).trans ((frz_alloc_before _ _ _ _ mt).trans mz1))); (first | (have omz2 := (hb.frz _ _ mt).trans mz2) | (have omz2 := (hb.frz _ _ (lt_alloc mt)).trans ((frz_alloc_before _ _ _ _ mt).trans mz2))); (first | (have omz3 := (hb.frz _ _ mt).trans mz3) | (have omz3 := (hb.frz _ _ (lt_alloc mt)).trans ((frz_alloc_before _ _ _ _ mt).trans mz3))); (first | (have ot := hb.lt mt) | (have ot := hb.lt (lt_alloc mt))); clear m0 m1 m2 m3 mz0 mz1 mz2 mz3; have m0 := om0; have m1 := om1; have m2 := om2; have m3 := om3; have mz0 := omz0; have mz1 := omz1; have mz2 := omz2; have mz3 := omz3; have mt := ot; clear om0 om1 om2 om3 omz0 omz1 omz2 omz3 ot) | (have q2 := Ext.new4 hb; obtain ⟨m0, m1, m2, m3, mz0, mz1, mz2, mz3, mt⟩ := q2; try simp only [World.size_alloc, World.size_drew, Nat.add_assoc, Nat.reduceAdd] at m0 m1 m2 m3 mz0 mz1 mz2 mz3 mt) | (have q2 := Ext.new4d hb; obtain ⟨m0, m1, m2, m3, mz0, mz1, mz2, mz3, mt⟩ := q2; try simp only [World.size_alloc, World.size_drew, Nat.add_assoc, Nat.reduceAdd] at m0 m1 m2 m3 mz0 mz1 mz2 mz3 mt) | skip); have ns : w.heap.size < w1.heap.size := hb.ltK; have n0 : w1.cell? ⟨w.heap.size, 0, none⟩ = some (.int .i64 e) := hb.cellK; have n1 : w1.cell? ⟨w.heap.size, 1, none⟩ = some (.int .i64 f) := hb.cellK; (first | (have nx := Ext.trans hx hb; clear hx) | (have nx := Ext.trans (hx.alloc _) hb; clear hx) | (have nx := Ext.trans hx.drew hb; clear hx) | have nx := hb); clear hb; try clear hs; try clear g0; try clear g1; have hx := nx; clear nx; have hs := ns; clear ns; have g0 := n0; clear n0; have g1 := n1; clear n1)))
    all_goals (go_wp2_with fail; go_meet; exact ⟨_, rfl, (by first | with_reducible assumption | (simp [go_sem, *]; done) | (simp [go_sem]; omega) | ((repeat first | rw [cell_set_far _ _ _ _ _ _ (by omega)] | rw [cell_alloc_before _ _ _ _ (by omega)] | rw [cell_alloc_drew _ _ _ _ (by omega)] | rw [cell_drew]); with_reducible assumption)), (by first | with_reducible assumption | (simp [go_sem, *]; done) | (simp [go_sem]; omega) | ((repeat first | rw [cell_set_far _ _ _ _ _ _ (by omega)] | rw [cell_alloc_before _ _ _ _ (by omega)] | rw [cell_alloc_drew _ _ _ _ (by omega)] | rw [cell_drew]); with_reducible assumption)), (by first | with_reducible assumption | (simp [go_sem, *]; done) | (simp [go_sem]; omega) | ((repeat first | rw [cell_set_far _ _ _ _ _ _ (by omega)] | rw [cell_alloc_before _ _ _ _ (by omega)] | rw [cell_alloc_drew _ _ _ _ (by omega)] | rw [cell_drew]); with_reducible assumption)), (by first | with_reducible assumption | (simp [go_sem, *]; done) | (simp [go_sem]; omega) | ((repeat first | rw [cell_set_far _ _ _ _ _ _ (by omega)] | rw [cell_alloc_before _ _ _ _ (by omega)] | rw [cell_alloc_drew _ _ _ _ (by omega)] | rw [cell_drew]); with_reducible assumption)), (by first | with_reducible assumption | (simp [go_sem, *]; done) | (simp [go_sem]; omega) | ((repeat first | rw [cell_set_far _ _ _ _ _ _ (by omega)] | rw [cell_alloc_before _ _ _ _ (by omega)] | rw [cell_alloc_drew _ _ _ _ (by omega)] | rw [cell_drew]); with_reducible assumption)), (by first | with_reducible assumption | (simp [go_sem, *]; done) | (simp [go_sem]; omega) | ((repeat first | rw [cell_set_far _ _ _ _ _ _ (by omega)] | rw [cell_alloc_before _ _ _ _ (by omega)] | rw [cell_alloc_drew _ _ _ _ (by omega)] | rw [cell_drew]); with_reducible assumption)), (by first | (simp [World.setCell]; done) | (simp [World.setCell]; omega) | omega), (by first | (simp [World.setCell]; done) | (simp [World.setCell]; omega) | omega), Ext.auK⟩)
  case rest =>
    obtain ⟨g, rfl, l0, l1, l2, l3, g0', g1', hs1, hg2, hx⟩ := hcut
    have hs : max w.heap.size g < wc.heap.size := by omega
    go_wp2_with (first | (go_at_call 121; refine (inf_one _).mono ?_; rintro rv w1 ⟨rfl, hb⟩; have ns : max w.heap.size g < w1.heap.size := hb.ltK; have n0 : w1.cell? ⟨w.heap.size, 0, none⟩ = some (.int .i64 e) := hb.cellK; have n1 : w1.cell? ⟨w.heap.size, 1, none⟩ = some (.int .i64 f) := hb.cellK; have n2 : w1.cell? ⟨g, 0, none⟩ = some (.int .i64 0) := hb.cellK; have n3 : w1.cell? ⟨g, 1, none⟩ = some (.int .i64 (s / pw f)) := hb.cellK; have n4 : w1.cell? ⟨g, 2, none⟩ = some (.int .i64 (s % pw f)) := hb.cellK; have n5 : w1.cell? ⟨g, 3, none⟩ = some (.int .i64 (pw e - 1)) := hb.cellK; (first | (have nx := Ext.trans hx hb; clear hx) | (have nx := Ext.trans (hx.alloc _) hb; clear hx) | (have nx := Ext.trans hx.drew hb; clear hx) | have nx := hb); clear hb; try clear hs; try clear g0; try clear g1; try clear g2; try clear g3; try clear g4; try clear g5; have hx := nx; clear nx; have hs := ns; clear ns; have g0 := n0; clear n0; have g1 := n1; clear n1; have g2 := n2; clear n2; have g3 := n3; clear n3; have g4 := n4; clear n4; have g5 := n5; clear n5) | (go_at_call 122; refine (HFI.out _).mono ?_; rintro rv w1 ⟨rfl, hb⟩; have ns : max w.heap.size g < w1.heap.size := hb.ltK; have n0 : w1.cell? ⟨w.heap.size, 0, none⟩ = some (.int .i64 e) := hb.cellK; have n1 : w1.cell? ⟨w.heap.size, 1, none⟩ = some (.int .i64 f) := hb.cellK; have n2 : w1.cell? ⟨g, 0, none⟩ = some (.int .i64 0) := hb.cellK; have n3 : w1.cell? ⟨g, 1, none⟩ = some (.int .i64 (s / pw f)) := hb.cellK; have n4 : w1.cell? ⟨g, 2, none⟩ = some (.int .i64 (s % pw f)) := hb.cellK; have n5 : w1.cell? ⟨g, 3, none⟩ = some (.int .i64 (pw e - 1)) := hb.cellK; (first | (have nx := Ext.trans hx hb; clear hx) | (have nx := Ext.trans (hx.alloc _) hb; clear hx) | (have nx := Ext.trans hx.drew hb; clear hx) | have nx := hb); clear hb; try clear hs; try clear g0; try clear g1; try clear g2; try clear g3; try clear g4; try clear g5; have hx := nx; clear nx; have hs := ns; clear ns; have g0 := n0; clear n0; have g1 := n1; clear n1; have g2 := n2; clear n2; have g3 := n3; clear n3; have g4 := n4; clear n4; have g5 := n5; clear n5) | (go_at_call 124; refine (HCS.out _).mono ?_; rintro rv w1 ⟨rfl, rfl⟩))
    go_ret
    exact ⟨rfl, Ext.auK⟩
end Go.Proofs.Ytjebechmedhidaa

namespace Go.Proofs.Ytjebechmedhidaa
open Go Go.RowKit
set_option linter.unusedSimpArgs false
set_option linter.unusedVariables false
set_option maxRecDepth 100000

theorem neg_un {e f b : Int} (hp : patB e f b = true) : finB e f (negV e f b) = finB e f b ∧ unitsV e f (negV e f b) = -unitsV e f b := by
  obtain ⟨n1, n2, n3, n4⟩ := neg_fact e f b hp
  obtain ⟨hg, p0, p1⟩ := pat_iff.1 hp
  have pp := pw_pos (e + f)
  have s0 : 0 ≤ b / pw (e + f) := Int.ediv_nonneg p0 (by omega)
  have s1 : b / pw (e + f) < 2 := Int.ediv_lt_of_lt_mul (by omega) p1
  refine ⟨?_, ?_⟩
  · unfold finB
    rw [n1, hp, n3]
  · unfold unitsV
    rw [mag_mod n1, mag_mod hp, n3, n2]
    rcases (show b / pw (e + f) = 0 ∨ b / pw (e + f) = 1 by omega) with h | h <;> rw [h] <;> simp

/-- The word with the other sign. -/
def ncw (u : Int) : Nat := sw Ieee.single (!decide (u < 0)) (u.natAbs * 2 ^ 149)

theorem neg_cw {u : Int} (h : Ok Ieee.single (u.natAbs * 2 ^ 149)) : Op.negFloat .f32 (cw u) = ncw u := neg_sw _ h

theorem add_ncw {a b : Int} (ha : Ok Ieee.single (a.natAbs * 2 ^ 149)) (hb : Ok Ieee.single (b.natAbs * 2 ^ 149)) : floatBits .add .f32 (cw a) (ncw b) = some (cw (a - b)) := by
  rw [← sub_cw ha hb]
  have h1 := add_sw (s := decide (a < 0)) (t := !decide (b < 0)) ha hb
  have h2 := sub_sw (s := decide (a < 0)) (t := decide (b < 0)) ha hb
  show Ieee.single.add _ _ = Ieee.single.sub _ _
  unfold cw ncw
  rw [h1, h2]

theorem fin_ns {e f u : Int} (hg : goodB e f = true) (hB : nsB e f u = true) : finB e f (nsV e f u) = true := by rw [(ns_pat hg).2]; exact hB

theorem nr_inf {e f u : Int} (hB : nsB e f u = false) : nrW e f (decide (u < 0)) (nsP e f u) = Ieee.single.word (decide (u < 0)) Ieee.single.infRung := if_neg (of_decide_eq_false hB)

theorem exLess_any (e f a s : Int) (ha : finB e f a = true) (hs : finB e f s = true) (w : World) : Calls Try.prog 56 #[fmt e f, .int .i64 a, .int .i64 s] w fun rv w' => rv = .returned (.tuple #[.int .i64 (nsV e f (unitsV e f a - unitsV e f s)), .bool (nsB e f (unitsV e f a - unitsV e f s))]) ∧ Ext w w' := by
  have hp := (fin_pat hs).1
  obtain ⟨n1, n2⟩ := neg_un hp
  have ES_ := fun w => exSum_any e f a (negV e f s) (by rw [ha, n1, hs]; rfl) w
  rw [n2, ← Int.sub_eq_add_neg] at ES_
  have ESH := Lib.hid ES_; clear ES_ n1 n2
  go_enter Try.func56, Try.ntmps56
  go_wp2_with (first | (go_at_call 110; refine (negateV_any e f s hp _).mono ?_; rintro rv w1 ⟨rfl, hb⟩; have ns : w.heap.size < w1.heap.size := hb.ltK; have n0 : w1.cell? ⟨w.heap.size, 0, none⟩ = some (.int .i64 e) := hb.cellK; have n1 : w1.cell? ⟨w.heap.size, 1, none⟩ = some (.int .i64 f) := hb.cellK; (first | (have nx := Ext.trans hx hb; clear hx) | (have nx := Ext.trans (hx.alloc _) hb; clear hx) | (have nx := Ext.trans hx.drew hb; clear hx) | have nx := hb); clear hb; try clear hs; try clear g0; try clear g1; have hx := nx; clear nx; have hs := ns; clear ns; have g0 := n0; clear n0; have g1 := n1; clear n1) | (go_at_call 55; refine (ESH.out _).mono ?_; rintro rv w1 ⟨rfl, hb⟩; have ns : w.heap.size < w1.heap.size := hb.ltK; have n0 : w1.cell? ⟨w.heap.size, 0, none⟩ = some (.int .i64 e) := hb.cellK; have n1 : w1.cell? ⟨w.heap.size, 1, none⟩ = some (.int .i64 f) := hb.cellK; (first | (have nx := Ext.trans hx hb; clear hx) | (have nx := Ext.trans (hx.alloc _) hb; clear hx) | (have nx := Ext.trans hx.drew hb; clear hx) | have nx := hb); clear hb; try clear hs; try clear g0; try clear g1; have hx := nx; clear nx; have hs := ns; clear ns; have g0 := n0; clear n0; have g1 := n1; clear n1))
  try (go_region_held3 (fun w' => w'.cell? ⟨w.heap.size, 0, none⟩ = some (.int .i64 e) ∧ w'.cell? ⟨w.heap.size, 1, none⟩ = some (.int .i64 f) ∧ w.heap.size < w'.heap.size) ((refine ⟨?_, ?_, ?_⟩ <;> first | with_reducible assumption | ((rw [cell_setRow_far _ _ _ _ _ (by omega)]); with_reducible assumption) | ((rw [setRow_size]); with_reducible assumption) | ((repeat rw [World.cell?_setCell_far _ _ _ _ (by simp)]); with_reducible assumption) | (simp; done) | (simp [World.setCell]; first | done | omega) | (simp [go_sem, World.cell?_alloc_past, World.cell?_setCell_far, *]; done))) ((first | (go_at_call 110; refine (negateV_any e f s hp _).mono ?_; rintro rv w1 ⟨rfl, hb⟩; have ns : w.heap.size < w1.heap.size := hb.ltK; have n0 : w1.cell? ⟨w.heap.size, 0, none⟩ = some (.int .i64 e) := hb.cellK; have n1 : w1.cell? ⟨w.heap.size, 1, none⟩ = some (.int .i64 f) := hb.cellK; (first | (have nx := Ext.trans hx hb; clear hx) | (have nx := Ext.trans (hx.alloc _) hb; clear hx) | (have nx := Ext.trans hx.drew hb; clear hx) | have nx := hb); clear hb; try clear hs; try clear g0; try clear g1; have hx := nx; clear nx; have hs := ns; clear ns; have g0 := n0; clear n0; have g1 := n1; clear n1) | (go_at_call 55; refine (ESH.out _).mono ?_; rintro rv w1 ⟨rfl, hb⟩; have ns : w.heap.size < w1.heap.size := hb.ltK; have n0 : w1.cell? ⟨w.heap.size, 0, none⟩ = some (.int .i64 e) := hb.cellK; have n1 : w1.cell? ⟨w.heap.size, 1, none⟩ = some (.int .i64 f) := hb.cellK; (first | (have nx := Ext.trans hx hb; clear hx) | (have nx := Ext.trans (hx.alloc _) hb; clear hx) | (have nx := Ext.trans hx.drew hb; clear hx) | have nx := hb); clear hb; try clear hs; try clear g0; try clear g1; have hx := nx; clear nx; have hs := ns; clear ns; have g0 := n0; clear n0; have g1 := n1; clear n1))))
  try go_wp2_with fail
  first | go_ret2 | go_ret
  exact ⟨rfl, Ext.auK⟩
end Go.Proofs.Ytjebechmedhidaa

namespace Go.Proofs.Ytjebechmedhidaa
open Go Go.RowKit
set_option linter.unusedSimpArgs false
set_option linter.unusedVariables false
set_option maxRecDepth 100000

theorem nearest_dif (e f a s : Int) (ha : finB e f a = true) (hs : finB e f s = true) (w : World) : Calls Try.prog 70 #[fmt e f, .float .f32 (cw (unitsV e f a - unitsV e f s))] w fun rv w' => rv = .returned (.float .f32 (nrW e f (decide (unitsV e f a - unitsV e f s < 0)) (nsP e f (unitsV e f a - unitsV e f s)))) ∧ Ext w w' := by
  obtain ⟨n1, n2⟩ := neg_un (fin_pat hs).1
  have := nearest_sum e f a (negV e f s) ha (by rw [n1]; exact hs) w
  rwa [n2, ← Int.sub_eq_add_neg] at this
end Go.Proofs.Ytjebechmedhidaa

