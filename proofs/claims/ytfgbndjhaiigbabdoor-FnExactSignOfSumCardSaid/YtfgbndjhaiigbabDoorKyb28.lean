/-
  Contracts of the functions that the laws reach, and the plain facts that they rest on, each under the conditions that its line names; part 28.
-/
import Derived.Test.YtfgbndjhaiigbabDoorKyb1
import Derived.Test.YtfgbndjhaiigbabDoorKyb2
import Derived.Test.YtfgbndjhaiigbabDoorKyb3
import Derived.Test.YtfgbndjhaiigbabDoorKyb4
import Derived.Test.YtfgbndjhaiigbabDoorKyb5
import Derived.Test.YtfgbndjhaiigbabDoorKyb6
import Derived.Test.YtfgbndjhaiigbabDoorKyb7
import Derived.Test.YtfgbndjhaiigbabDoorKyb8
import Derived.Test.YtfgbndjhaiigbabDoorKyb9
import Derived.Test.YtfgbndjhaiigbabDoorKyb10
import Derived.Test.YtfgbndjhaiigbabDoorKyb11
import Derived.Test.YtfgbndjhaiigbabDoorKyb12
import Derived.Test.YtfgbndjhaiigbabDoorKyb13
import Derived.Test.YtfgbndjhaiigbabDoorKyb14
import Derived.Test.YtfgbndjhaiigbabDoorKyb15
import Derived.Test.YtfgbndjhaiigbabDoorKyb16
import Derived.Test.YtfgbndjhaiigbabDoorKyb17
import Derived.Test.YtfgbndjhaiigbabDoorKyb18
import Derived.Test.YtfgbndjhaiigbabDoorKyb19
import Derived.Test.YtfgbndjhaiigbabDoorKyb20
import Derived.Test.YtfgbndjhaiigbabDoorKyb21
import Derived.Test.YtfgbndjhaiigbabDoorKyb27
import Derived.Test.YtfgbndjhaiigbabDoorRows
import Derived.WalkKit
import Derived.LoopTactic
import Derived.LoopN
import Derived.Laws.OwnMore
import Derived.OwnWalk
import Derived.Deep.AppendLies
import Derived.Deep.LoopGhost
import Derived.Laws.Bits64b
import Derived.WalkSpells
import Derived.WalkLawsBesides
import Derived.StillTactics
import Derived.Laws.Pointers
import Derived.Deep.RegionHeld3
import Derived.Deep.QuietTactic
import Derived.BigQuiet
import Derived.Outline
import Derived.Lib.Hide
import Derived.RowKit3
import Derived.Carry
import Derived.IntWalk
namespace Go.Proofs.YtfgbndjhaiigbabDoor
open Go Go.RowKit
set_option linter.unusedSimpArgs false
set_option linter.unusedVariables false
set_option maxRecDepth 100000

/-- The values of the first k patterns. -/
def valsL (e f : Int) (V : Nat → Int) (k : Nat) : List Value := (List.range k).map (fun j => .float .f32 (floatOfInt .f32 (unitsV e f (V j))))

theorem valsL_succ (e f : Int) (V : Nat → Int) (k : Nat) : valsL e f V (k + 1) = valsL e f V k ++ [.float .f32 (floatOfInt .f32 (unitsV e f (V k)))] := by unfold valsL; rw [List.range_succ]; simp

set_option maxHeartbeats 3200000 in
theorem valuesOf_any (e f : Int) (V : Nat → Int) (a : Addr) (n cap : Nat) (hg1 : goodB e f = true) (hn : n ≤ 12) (hV : ∀ i, i < n → finB e f (V i) = true) (w : World) (hc : ∀ i, i < n → w.cell? (a.add i) = some (.int .i64 (V i))) (ha : a.block < w.heap.size) :
    Calls Tryd.prog 50 #[fmt e f, .slice (some a) n cap] w fun rv w' => ∃ v B, rv = .returned (.tuple #[v, .bool true]) ∧ w.heap.size ≤ B ∧ w'.ownsRow B 59 1 v n (valsL e f V n) ∧ Ext w w' := by
  obtain ⟨i, hi, hz, hsz, hby⟩ : ∃ i, Tryd.prog.info? 59 = some i ∧ i.zero = some (Value.float .f32 0) ∧ i.size = 1 ∧ i.bytes = 4 := by
    cases h : Tryd.prog.info? 59 with
    | none => exact absurd h (by have : (Tryd.prog.info? 59).isSome = true := by kernel_rfl
                                 intro h2; rw [h2] at this; cases this)
    | some i =>
      refine ⟨i, rfl, ?_, ?_, ?_⟩
      · have : (Tryd.prog.info? 59).map (·.zero) = some (some (Value.float .f32 0)) := by kernel_rfl
        rw [h] at this; exact Option.some.inj this
      · have : (Tryd.prog.info? 59).map (·.size) = some 1 := by kernel_rfl
        rw [h] at this; exact Option.some.inj this
      · have : (Tryd.prog.info? 59).map (·.bytes) = some 4 := by kernel_rfl
        rw [h] at this; exact Option.some.inj this
  have HI := Lib.hid hi; have HZ := Lib.hid hz; have HSZ := Lib.hid hsz; have HBY := Lib.hid hby; clear hi hz hsz hby
  go_enter Tryd.func50, Tryd.ntmps50
  go_wp2_with (go_at_call 100; refine (isFormat_any e f _).mono ?_; rintro rv w0 ⟨rfl, hb⟩; have ns : max w.heap.size a.block < w0.heap.size := hb.lt (by first | with_reducible assumption | omega | (simp; done) | (simp; omega)); have n0 : w0.cell? ⟨w.heap.size, 0, none⟩ = some (.int .i64 e) := (hb.cells _ _ (by first | with_reducible assumption | omega | (simp; done) | (simp; omega))).trans (by first | with_reducible assumption | (simp; done) | (simp; with_reducible assumption) | (rw [cell_alloc_before _ _ _ _ (by omega)]; with_reducible assumption) | (simp [go_sem, *]; done)); have n1 : w0.cell? ⟨w.heap.size, 1, none⟩ = some (.int .i64 f) := (hb.cells _ _ (by first | with_reducible assumption | omega | (simp; done) | (simp; omega))).trans (by first | with_reducible assumption | (simp; done) | (simp; with_reducible assumption) | (rw [cell_alloc_before _ _ _ _ (by omega)]; with_reducible assumption) | (simp [go_sem, *]; done)); (first | (have nx := Ext.trans hx hb; clear hx) | (have nx := Ext.trans (hx.alloc _) hb; clear hx) | (have nx := Ext.trans hx.drew hb; clear hx) | have nx := hb); clear hb; try clear hs; try clear g0; try clear g1; have hx := nx; clear nx; have hs := ns; clear ns; have g0 := n0; clear n0; have g1 := n1; clear n1)
  have own0 := (World.ownsRow_lit (base := w0.heap.size) (e := 59) (size := 1) w0 #[] 0 (by simp) (by decide) rfl)
  have hwA : w.heap.size < w0.heap.size := by omega
  have haA : a.block < w0.heap.size := by omega
  have hs0 : w.heap.size < w0.heap.size := hwA
  have k0 := (cell_alloc_before w0 (.cells #[] 59) _ 0 hwA).trans n0
  have k1 := (cell_alloc_before w0 (.cells #[] 59) _ 1 hwA).trans n1
  have hx1 : Ext w (w0.alloc (.cells #[] 59)) := (Ext.trans (Ext.new _ _) nx).alloc _
  have hz1 : w0.heap.size < (w0.alloc (.cells #[] 59)).heap.size := by simp
  have OWN := Lib.hid own0; clear own0
  go_loopw [6, 22] (fun v x wr => ∃ k : Nat, x = .int .i64 (k : Int) ∧ k ≤ n ∧ wr.ownsRow w0.heap.size 59 1 v k (valsL e f V k) ∧ wr.cell? ⟨w.heap.size, 0, none⟩ = some (.int .i64 e) ∧ wr.cell? ⟨w.heap.size, 1, none⟩ = some (.int .i64 f) ∧ Ext w wr ∧ w0.heap.size < wr.heap.size) (fun _ x _ => n - (intOf x).toNat)
  case atStart => exact ⟨0, rfl, by omega, OWN.out, k0, k1, hx1, hz1⟩
  case round =>
    clear OWN k0 k1 nx hx1 hz1
    obtain ⟨k, rfl, hk, OWN0, g0, g1, hx, hs⟩ := hrel
    have OWN := Lib.hid OWN0; clear OWN0
    by_cases hlt : k < n
    · have h1 : ((k : Nat) : Int) < (n : Int) := by omega
      have h0 : (0 : Int) ≤ (k : Int) := by omega
      have h2 : ((k : Int)).toNat = k := by omega
      have u1 : IntKind.i64.wrap ((k : Int) + 1) = (k : Int) + 1 := IntWalk.i64_in _ (by omega)
      have e0 : (a.add k).block = a.block := (by unfold Addr.add; split <;> rfl)
      have ga : wr.cell? (a.add k) = some (.int .i64 (V k)) := (Below.cell (p := a.add k) hx (by rw [e0]; exact ha)).trans (hc k hlt)
      have hVk := hV k hlt
      go_wp2_with (first | (go_at_call 101; (with_reducible refine (iUnitsOf_yes e f (V k) hVk _).mono ?_); rintro rv w1 ⟨rfl, hb⟩; (first | (have OWN9 := Lib.hid (own_ext OWN.out hb); clear OWN; have OWN := OWN9; clear OWN9) | (have OWN9 := Lib.hid (own_ext (own_ext OWN.out (Ext.new _ _)) hb); clear OWN; have OWN := OWN9; clear OWN9)); have ns : w0.heap.size < w1.heap.size := hb.lt (by first | with_reducible assumption | omega | (simp; done) | (simp; omega)); have n0 : w1.cell? ⟨w.heap.size, 0, none⟩ = some (.int .i64 e) := (hb.cells _ _ (by first | with_reducible assumption | omega | (simp; done) | (simp; omega))).trans (by first | with_reducible assumption | (simp; done) | (simp; with_reducible assumption) | (rw [cell_alloc_before _ _ _ _ (by omega)]; with_reducible assumption) | (simp [go_sem, *]; done)); have n1 : w1.cell? ⟨w.heap.size, 1, none⟩ = some (.int .i64 f) := (hb.cells _ _ (by first | with_reducible assumption | omega | (simp; done) | (simp; omega))).trans (by first | with_reducible assumption | (simp; done) | (simp; with_reducible assumption) | (rw [cell_alloc_before _ _ _ _ (by omega)]; with_reducible assumption) | (simp [go_sem, *]; done)); (first | (have nx := Ext.trans hx hb; clear hx) | (have nx := Ext.trans (hx.alloc _) hb; clear hx) | (have nx := Ext.trans hx.drew hb; clear hx) | have nx := hb); clear hb; try clear hs; try clear g0; try clear g1; have hx := nx; clear nx; have hs := ns; clear ns; have g0 := n0; clear n0; have g1 := n1; clear n1) | (at_builtin; (refine wpList_append_own _ rfl (.tmp 34) (.tmp 37) 56 rfl (w0.heap.size) 59 i _ 1 4 Tryd.underlying56 HI.out HZ.out HSZ.out HBY.out rfl (by decide) _ k (valsL e f V k) rfl (own_ext OWN.out (Ext.new _ _)) _ 1 1 [(.float .f32 (floatOfInt .f32 (unitsV e f (V k))))] rfl rfl (fun j u hj => by cases j with | zero => (simp at hj; subst hj; simp [go_sem, Addr.add]) | succ j => simp at hj) (by simp [Value.oneCell']) (by simp [maxLen]; omega) (by omega) (by simp; omega) ?_); intro v9 w9 OWN8 hgr _; have hne : ∀ k, k < w0.heap.size → some k ≠ Value.ownBlock u6 := fun k hk h => (by have := (World.ownsRow.lt OWN.out _ h.symm).1; omega); have c0 : w9.cell? ⟨w.heap.size, 0, none⟩ = some (.int .i64 e) := hgr.cell ((cell_alloc_before _ _ (w.heap.size) 0 (by omega)).trans (by with_reducible assumption)) (hne (w.heap.size) (by omega)); have c1 : w9.cell? ⟨w.heap.size, 1, none⟩ = some (.int .i64 f) := hgr.cell ((cell_alloc_before _ _ (w.heap.size) 1 (by omega)).trans (by with_reducible assumption)) (hne (w.heap.size) (by omega)); have sz : w1.heap.size + 1 ≤ w9.heap.size := (by have h := hgr.size; rwa [World.size_alloc] at h); have hs9 : w0.heap.size < w9.heap.size := (by omega); have hx9 : Ext w w9 := ext_grown (by repeat (first | exact Ext.refl _ | with_reducible assumption | apply Ext.alloc | apply Ext.drew | apply Ext.drewN | (refine Ext.setRow ?_ (by first | (simp; done) | (simp; omega) | omega) _) | (refine Ext.setCell ?_ (by first | (simp; done) | (simp; omega) | omega) _) | (refine Ext.trans ?_ (by with_reducible assumption)))) hgr (fun k hk => by have := (World.ownsRow.lt OWN.out k hk).1; omega); have OWN7 : RowKit.Hid (w9.ownsRow w0.heap.size 59 1 v9 (k + 1) (valsL e f V k ++ [(.float .f32 (floatOfInt .f32 (unitsV e f (V k))))])) := OWN8; clear OWN OWN8 hne hgr; have OWN := OWN7; clear OWN7))
      go_roundw
      case rel => exact ⟨k + 1, by simp, by omega, by rw [valsL_succ]; exact OWN.out, c0, c1, hx9, hs9⟩
      case measure => simp [intOf]; omega
    · have h1 : ¬ ((k : Nat) : Int) < (n : Int) := by omega
      have hkn : k = n := by omega
      go_wp2_with fail
      go_ret2
      subst hkn
      exact ⟨u6, rfl, _, by omega, OWN.out, hx⟩

set_option maxHeartbeats 3200000 in
theorem valuesOf_stop (e f : Int) (V : Nat → Int) (a : Addr) (n cap : Nat) (hg1 : goodB e f = true) (hn : n ≤ 12) (m : Nat) (hm : m < n) (hV : ∀ i, i < m → finB e f (V i) = true) (hb2 : finB e f (V m) = false) (w : World) (hc : ∀ i, i < n → w.cell? (a.add i) = some (.int .i64 (V i))) (ha : a.block < w.heap.size) :
    Calls Tryd.prog 50 #[fmt e f, .slice (some a) n cap] w fun rv w' => rv = .returned (.tuple #[.slice none 0 0, .bool false]) ∧ Ext w w' := by
  obtain ⟨i, hi, hz, hsz, hby⟩ : ∃ i, Tryd.prog.info? 59 = some i ∧ i.zero = some (Value.float .f32 0) ∧ i.size = 1 ∧ i.bytes = 4 := by
    cases h : Tryd.prog.info? 59 with
    | none => exact absurd h (by have : (Tryd.prog.info? 59).isSome = true := by kernel_rfl
                                 intro h2; rw [h2] at this; cases this)
    | some i =>
      refine ⟨i, rfl, ?_, ?_, ?_⟩
      · have : (Tryd.prog.info? 59).map (·.zero) = some (some (Value.float .f32 0)) := by kernel_rfl
        rw [h] at this; exact Option.some.inj this
      · have : (Tryd.prog.info? 59).map (·.size) = some 1 := by kernel_rfl
        rw [h] at this; exact Option.some.inj this
      · have : (Tryd.prog.info? 59).map (·.bytes) = some 4 := by kernel_rfl
        rw [h] at this; exact Option.some.inj this
  have HI := Lib.hid hi; have HZ := Lib.hid hz; have HSZ := Lib.hid hsz; have HBY := Lib.hid hby; clear hi hz hsz hby
  go_enter Tryd.func50, Tryd.ntmps50
  go_wp2_with (go_at_call 100; refine (isFormat_any e f _).mono ?_; rintro rv w0 ⟨rfl, hb⟩; have ns : max w.heap.size a.block < w0.heap.size := hb.lt (by first | with_reducible assumption | omega | (simp; done) | (simp; omega)); have n0 : w0.cell? ⟨w.heap.size, 0, none⟩ = some (.int .i64 e) := (hb.cells _ _ (by first | with_reducible assumption | omega | (simp; done) | (simp; omega))).trans (by first | with_reducible assumption | (simp; done) | (simp; with_reducible assumption) | (rw [cell_alloc_before _ _ _ _ (by omega)]; with_reducible assumption) | (simp [go_sem, *]; done)); have n1 : w0.cell? ⟨w.heap.size, 1, none⟩ = some (.int .i64 f) := (hb.cells _ _ (by first | with_reducible assumption | omega | (simp; done) | (simp; omega))).trans (by first | with_reducible assumption | (simp; done) | (simp; with_reducible assumption) | (rw [cell_alloc_before _ _ _ _ (by omega)]; with_reducible assumption) | (simp [go_sem, *]; done)); (first | (have nx := Ext.trans hx hb; clear hx) | (have nx := Ext.trans (hx.alloc _) hb; clear hx) | (have nx := Ext.trans hx.drew hb; clear hx) | have nx := hb); clear hb; try clear hs; try clear g0; try clear g1; have hx := nx; clear nx; have hs := ns; clear ns; have g0 := n0; clear n0; have g1 := n1; clear n1)
  have own0 := (World.ownsRow_lit (base := w0.heap.size) (e := 59) (size := 1) w0 #[] 0 (by simp) (by decide) rfl)
  have hwA : w.heap.size < w0.heap.size := by omega
  have haA : a.block < w0.heap.size := by omega
  have hs0 : w.heap.size < w0.heap.size := hwA
  have k0 := (cell_alloc_before w0 (.cells #[] 59) _ 0 hwA).trans n0
  have k1 := (cell_alloc_before w0 (.cells #[] 59) _ 1 hwA).trans n1
  have hx1 : Ext w (w0.alloc (.cells #[] 59)) := (Ext.trans (Ext.new _ _) nx).alloc _
  have hz1 : w0.heap.size < (w0.alloc (.cells #[] 59)).heap.size := by simp
  have OWN := Lib.hid own0; clear own0
  go_loopw [6, 22] (fun v x wr => ∃ k : Nat, x = .int .i64 (k : Int) ∧ k ≤ m ∧ wr.ownsRow w0.heap.size 59 1 v k (valsL e f V k) ∧ wr.cell? ⟨w.heap.size, 0, none⟩ = some (.int .i64 e) ∧ wr.cell? ⟨w.heap.size, 1, none⟩ = some (.int .i64 f) ∧ Ext w wr ∧ w0.heap.size < wr.heap.size) (fun _ x _ => n - (intOf x).toNat)
  case atStart => exact ⟨0, rfl, by omega, OWN.out, k0, k1, hx1, hz1⟩
  case round =>
    clear OWN k0 k1 nx hx1 hz1
    obtain ⟨k, rfl, hk, OWN0, g0, g1, hx, hs⟩ := hrel
    have OWN := Lib.hid OWN0; clear OWN0
    have hlt2 : k < n := by omega
    have h1 : ((k : Nat) : Int) < (n : Int) := by omega
    have h0 : (0 : Int) ≤ (k : Int) := by omega
    have h2 : ((k : Int)).toNat = k := by omega
    have u1 : IntKind.i64.wrap ((k : Int) + 1) = (k : Int) + 1 := IntWalk.i64_in _ (by omega)
    have e0 : (a.add k).block = a.block := (by unfold Addr.add; split <;> rfl)
    have ga : wr.cell? (a.add k) = some (.int .i64 (V k)) := (Below.cell (p := a.add k) hx (by rw [e0]; exact ha)).trans (hc k hlt2)
    by_cases hlt : k < m
    · have hVk := hV k hlt
      go_wp2_with (first | (go_at_call 101; (with_reducible refine (iUnitsOf_yes e f (V k) hVk _).mono ?_); rintro rv w1 ⟨rfl, hb⟩; (first | (have OWN9 := Lib.hid (own_ext OWN.out hb); clear OWN; have OWN := OWN9; clear OWN9) | (have OWN9 := Lib.hid (own_ext (own_ext OWN.out (Ext.new _ _)) hb); clear OWN; have OWN := OWN9; clear OWN9)); have ns : w0.heap.size < w1.heap.size := hb.lt (by first | with_reducible assumption | omega | (simp; done) | (simp; omega)); have n0 : w1.cell? ⟨w.heap.size, 0, none⟩ = some (.int .i64 e) := (hb.cells _ _ (by first | with_reducible assumption | omega | (simp; done) | (simp; omega))).trans (by first | with_reducible assumption | (simp; done) | (simp; with_reducible assumption) | (rw [cell_alloc_before _ _ _ _ (by omega)]; with_reducible assumption) | (simp [go_sem, *]; done)); have n1 : w1.cell? ⟨w.heap.size, 1, none⟩ = some (.int .i64 f) := (hb.cells _ _ (by first | with_reducible assumption | omega | (simp; done) | (simp; omega))).trans (by first | with_reducible assumption | (simp; done) | (simp; with_reducible assumption) | (rw [cell_alloc_before _ _ _ _ (by omega)]; with_reducible assumption) | (simp [go_sem, *]; done)); (first | (have nx := Ext.trans hx hb; clear hx) | (have nx := Ext.trans (hx.alloc _) hb; clear hx) | (have nx := Ext.trans hx.drew hb; clear hx) | have nx := hb); clear hb; try clear hs; try clear g0; try clear g1; have hx := nx; clear nx; have hs := ns; clear ns; have g0 := n0; clear n0; have g1 := n1; clear n1) | (at_builtin; (refine wpList_append_own _ rfl (.tmp 34) (.tmp 37) 56 rfl (w0.heap.size) 59 i _ 1 4 Tryd.underlying56 HI.out HZ.out HSZ.out HBY.out rfl (by decide) _ k (valsL e f V k) rfl (own_ext OWN.out (Ext.new _ _)) _ 1 1 [(.float .f32 (floatOfInt .f32 (unitsV e f (V k))))] rfl rfl (fun j u hj => by cases j with | zero => (simp at hj; subst hj; simp [go_sem, Addr.add]) | succ j => simp at hj) (by simp [Value.oneCell']) (by simp [maxLen]; omega) (by omega) (by simp; omega) ?_); intro v9 w9 OWN8 hgr _; have hne : ∀ k, k < w0.heap.size → some k ≠ Value.ownBlock u6 := fun k hk h => (by have := (World.ownsRow.lt OWN.out _ h.symm).1; omega); have c0 : w9.cell? ⟨w.heap.size, 0, none⟩ = some (.int .i64 e) := hgr.cell ((cell_alloc_before _ _ (w.heap.size) 0 (by omega)).trans (by with_reducible assumption)) (hne (w.heap.size) (by omega)); have c1 : w9.cell? ⟨w.heap.size, 1, none⟩ = some (.int .i64 f) := hgr.cell ((cell_alloc_before _ _ (w.heap.size) 1 (by omega)).trans (by with_reducible assumption)) (hne (w.heap.size) (by omega)); have sz : w1.heap.size + 1 ≤ w9.heap.size := (by have h := hgr.size; rwa [World.size_alloc] at h); have hs9 : w0.heap.size < w9.heap.size := (by omega); have hx9 : Ext w w9 := ext_grown (by repeat (first | exact Ext.refl _ | with_reducible assumption | apply Ext.alloc | apply Ext.drew | apply Ext.drewN | (refine Ext.setRow ?_ (by first | (simp; done) | (simp; omega) | omega) _) | (refine Ext.setCell ?_ (by first | (simp; done) | (simp; omega) | omega) _) | (refine Ext.trans ?_ (by with_reducible assumption)))) hgr (fun k hk => by have := (World.ownsRow.lt OWN.out k hk).1; omega); have OWN7 : RowKit.Hid (w9.ownsRow w0.heap.size 59 1 v9 (k + 1) (valsL e f V k ++ [(.float .f32 (floatOfInt .f32 (unitsV e f (V k))))])) := OWN8; clear OWN OWN8 hne hgr; have OWN := OWN7; clear OWN7))
      go_roundw
      case rel => exact ⟨k + 1, by simp, by omega, by rw [valsL_succ]; exact OWN.out, c0, c1, hx9, hs9⟩
      case measure => simp [intOf]; omega
    · have hkm : k = m := by omega
      subst hkm
      go_wp2_with (go_at_call 101; (with_reducible refine (iUnitsOf_no e f (V k) hb2 _).mono ?_); rintro rv w1 ⟨rfl, hb⟩; (first | (have OWN9 := Lib.hid (own_ext OWN.out hb); clear OWN; have OWN := OWN9; clear OWN9) | (have OWN9 := Lib.hid (own_ext (own_ext OWN.out (Ext.new _ _)) hb); clear OWN; have OWN := OWN9; clear OWN9)); have ns : w0.heap.size < w1.heap.size := hb.lt (by first | with_reducible assumption | omega | (simp; done) | (simp; omega)); have n0 : w1.cell? ⟨w.heap.size, 0, none⟩ = some (.int .i64 e) := (hb.cells _ _ (by first | with_reducible assumption | omega | (simp; done) | (simp; omega))).trans (by first | with_reducible assumption | (simp; done) | (simp; with_reducible assumption) | (rw [cell_alloc_before _ _ _ _ (by omega)]; with_reducible assumption) | (simp [go_sem, *]; done)); have n1 : w1.cell? ⟨w.heap.size, 1, none⟩ = some (.int .i64 f) := (hb.cells _ _ (by first | with_reducible assumption | omega | (simp; done) | (simp; omega))).trans (by first | with_reducible assumption | (simp; done) | (simp; with_reducible assumption) | (rw [cell_alloc_before _ _ _ _ (by omega)]; with_reducible assumption) | (simp [go_sem, *]; done)); (first | (have nx := Ext.trans hx hb; clear hx) | (have nx := Ext.trans (hx.alloc _) hb; clear hx) | (have nx := Ext.trans hx.drew hb; clear hx) | have nx := hb); clear hb; try clear hs; try clear g0; try clear g1; have hx := nx; clear nx; have hs := ns; clear ns; have g0 := n0; clear n0; have g1 := n1; clear n1)
      go_ret2
      exact ⟨rfl, (by repeat (first | exact Ext.refl _ | with_reducible assumption | apply Ext.alloc | apply Ext.drew | apply Ext.drewN | (refine Ext.setRow ?_ (by first | (simp; done) | (simp; omega) | omega) _) | (refine Ext.setCell ?_ (by first | (simp; done) | (simp; omega) | omega) _) | (refine Ext.trans ?_ (by with_reducible assumption))))⟩

set_option maxHeartbeats 1600000 in
theorem valuesOf_long (e f : Int) (a : Addr) (n cap : Nat) (hg1 : goodB e f = true) (hn : 12 < n) (w : World) : Calls Tryd.prog 50 #[fmt e f, .slice (some a) n cap] w fun rv w' => rv = .returned (.tuple #[.slice none 0 0, .bool false]) ∧ Ext w w' := by
  have h1 : (12 : Int) < (n : Int) := by omega
  go_enter Tryd.func50, Tryd.ntmps50
  go_wp2_with (go_at_call 100; refine (isFormat_any e f _).mono ?_; rintro rv w1 ⟨rfl, hb⟩; have ns : w.heap.size < w1.heap.size := hb.lt (by first | with_reducible assumption | omega | (simp; done) | (simp; omega)); have n0 : w1.cell? ⟨w.heap.size, 0, none⟩ = some (.int .i64 e) := (hb.cells _ _ (by first | with_reducible assumption | omega | (simp; done) | (simp; omega))).trans (by first | with_reducible assumption | (simp; done) | (simp; with_reducible assumption) | (rw [cell_alloc_before _ _ _ _ (by omega)]; with_reducible assumption) | (simp [go_sem, *]; done)); have n1 : w1.cell? ⟨w.heap.size, 1, none⟩ = some (.int .i64 f) := (hb.cells _ _ (by first | with_reducible assumption | omega | (simp; done) | (simp; omega))).trans (by first | with_reducible assumption | (simp; done) | (simp; with_reducible assumption) | (rw [cell_alloc_before _ _ _ _ (by omega)]; with_reducible assumption) | (simp [go_sem, *]; done)); (first | (have nx := Ext.trans hx hb; clear hx) | (have nx := Ext.trans (hx.alloc _) hb; clear hx) | (have nx := Ext.trans hx.drew hb; clear hx) | have nx := hb); clear hb; try clear hs; try clear g0; try clear g1; have hx := nx; clear nx; have hs := ns; clear ns; have g0 := n0; clear n0; have g1 := n1; clear n1)
  go_ret2
  exact ⟨rfl, (by repeat (first | exact Ext.refl _ | with_reducible assumption | apply Ext.alloc | apply Ext.drew | apply Ext.drewN | (refine Ext.setRow ?_ (by first | (simp; done) | (simp; omega) | omega) _) | (refine Ext.setCell ?_ (by first | (simp; done) | (simp; omega) | omega) _) | (refine Ext.trans ?_ (by with_reducible assumption))))⟩

/-- All of n patterns are finite. -/
def allF (e f : Int) (V : Nat → Int) (n : Nat) : Bool := (List.range n).all (fun j => finB e f (V j))

theorem allF_iff {e f : Int} {V : Nat → Int} {n : Nat} : allF e f V n = true ↔ ∀ i, i < n → finB e f (V i) = true := by unfold allF; simp

theorem allF_not {e f : Int} {V : Nat → Int} {n : Nat} (h : allF e f V n = false) : ∃ m, m < n ∧ (∀ i, i < m → finB e f (V i) = true) ∧ finB e f (V m) = false := by
  induction n with
  | zero => simp [allF] at h
  | succ n ih =>
    by_cases h1 : allF e f V n = true
    · refine ⟨n, by omega, allF_iff.1 h1, ?_⟩
      unfold allF at h h1
      rw [List.range_succ, List.all_append, h1] at h
      simpa using h
    · obtain ⟨m, a, b, c⟩ := ih (by simpa using h1)
      exact ⟨m, by omega, b, c⟩

/-- There is a format, and a list of at most 12 finite patterns. -/
def lstB (e f : Int) (V : Nat → Int) (n : Nat) : Bool := goodB e f && decide (n ≤ 12) && allF e f V n

theorem valuesOf_list_no (e f : Int) (V : Nat → Int) (a : Addr) (n cap : Nat) (h : lstB e f V n = false) (w : World) (hc : ∀ i, i < n → w.cell? (a.add i) = some (.int .i64 (V i))) (ha : a.block < w.heap.size) : Calls Tryd.prog 50 #[fmt e f, .slice (some a) n cap] w fun rv w' => rv = .returned (.tuple #[.slice none 0 0, .bool false]) ∧ Ext w w' := by
  by_cases hg1 : goodB e f = true
  · by_cases hn : n ≤ 12
    · have h2 : allF e f V n = false := by unfold lstB at h; rw [hg1, decide_eq_true hn] at h; simpa using h
      obtain ⟨m, hm, hV, hb⟩ := allF_not h2
      exact valuesOf_stop e f V a n cap hg1 hn m hm hV hb w hc ha
    · exact valuesOf_long e f a n cap hg1 (by omega) w
  · exact valuesOf2_bad e f _ (by simpa using hg1) w

theorem valuesOf_list_yes (e f : Int) (V : Nat → Int) (a : Addr) (n cap : Nat) (h : lstB e f V n = true) (w : World) (hc : ∀ i, i < n → w.cell? (a.add i) = some (.int .i64 (V i))) (ha : a.block < w.heap.size) :
    Calls Tryd.prog 50 #[fmt e f, .slice (some a) n cap] w fun rv w' => ∃ v B, rv = .returned (.tuple #[v, .bool true]) ∧ w.heap.size ≤ B ∧ w'.ownsRow B 59 1 v n (valsL e f V n) ∧ Ext w w' := by
  unfold lstB at h
  rw [Bool.and_eq_true, Bool.and_eq_true] at h
  exact valuesOf_any e f V a n cap h.1.1 (of_decide_eq_true h.1.2) (allF_iff.1 h.2) w hc ha

/-- What the values of a list of n patterns are. -/
def VOL (e f : Int) (V : Nat → Int) (n : Nat) (w : World) (rv : Ending) (w' : World) : Prop := ∃ p cap, rv = .returned (.tuple #[.slice p n cap, .bool true]) ∧ (0 < n → ∃ gl, p = some ⟨gl, 0, none⟩ ∧ w.heap.size ≤ gl ∧ gl < w'.heap.size ∧ ∀ i, i < n → w'.cell? ⟨gl, i, none⟩ = some (.float .f32 (floatOfInt .f32 (unitsV e f (V i))))) ∧ Ext w w'

theorem valuesOf_list (e f : Int) (V : Nat → Int) (a : Addr) (n cap : Nat) (h : lstB e f V n = true) (w : World) (hc : ∀ i, i < n → w.cell? (a.add i) = some (.int .i64 (V i))) (ha : a.block < w.heap.size) :
    Calls Tryd.prog 50 #[fmt e f, .slice (some a) n cap] w (VOL e f V n w) := by
  refine (valuesOf_list_yes e f V a n cap h w hc ha).mono ?_
  rintro rv w' ⟨v, B, rfl, hB, how, hb⟩
  by_cases hn : 0 < n
  · obtain ⟨gl, cap, rfl, hg1, hg2⟩ := how.form (by omega)
    refine ⟨_, cap, rfl, fun _ => ⟨gl, rfl, by omega, by omega, fun i hi => ?_⟩, hb⟩
    have c := how.cellAt i (by omega)
    have e1 : (valsL e f V n)[i]? = some (.float .f32 (floatOfInt .f32 (unitsV e f (V i)))) := by unfold valsL; simp [hi]
    rw [e1] at c
    exact c
  · have h0 : n = 0 := by omega
    subst h0
    rcases how with ⟨_, ⟨rfl, _⟩ | ⟨g, cap, cur, rfl, _⟩⟩
    · exact ⟨_, _, rfl, fun h => absurd h (by omega), hb⟩
    · exact ⟨_, _, rfl, fun h => absurd h (by omega), hb⟩
end Go.Proofs.YtfgbndjhaiigbabDoor

