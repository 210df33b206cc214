/-
  Contracts of the functions that the laws reach, and the plain facts that they rest on, each under the conditions that its line names; part 22.
-/
import Derived.Test.YtkgphdicnjkgbaaDoorKss1
import Derived.Test.YtkgphdicnjkgbaaDoorKss2
import Derived.Test.YtkgphdicnjkgbaaDoorKss3
import Derived.Test.YtkgphdicnjkgbaaDoorKss4
import Derived.Test.YtkgphdicnjkgbaaDoorKss5
import Derived.Test.YtkgphdicnjkgbaaDoorKss6
import Derived.Test.YtkgphdicnjkgbaaDoorKss7
import Derived.Test.YtkgphdicnjkgbaaDoorKss8
import Derived.Test.YtkgphdicnjkgbaaDoorKss9
import Derived.Test.YtkgphdicnjkgbaaDoorKss10
import Derived.Test.YtkgphdicnjkgbaaDoorKss11
import Derived.Test.YtkgphdicnjkgbaaDoorKss12
import Derived.Test.YtkgphdicnjkgbaaDoorKss13
import Derived.Test.YtkgphdicnjkgbaaDoorKss14
import Derived.Test.YtkgphdicnjkgbaaDoorKss15
import Derived.Test.YtkgphdicnjkgbaaDoorKss16
import Derived.Test.YtkgphdicnjkgbaaDoorKss17
import Derived.Test.YtkgphdicnjkgbaaDoorKss18
import Derived.Test.YtkgphdicnjkgbaaDoorKss19
import Derived.Test.YtkgphdicnjkgbaaDoorKss20
import Derived.Test.YtkgphdicnjkgbaaDoorKss21
import Derived.Test.YtkgphdicnjkgbaaDoorRows
import Derived.WalkKit
import Derived.LoopTactic
import Derived.Laws.Bits64b
import Derived.WalkSpells
import Derived.WalkLawsBesides
import Derived.StillTactics
import Derived.Laws.Pointers
import Derived.Deep.RegionHeld3
import Derived.Deep.QuietTactic
import Derived.BigQuiet
import Derived.Outline
import Derived.Lib.Hide
import Derived.RowKit3
import Derived.Carry
import Derived.IntWalk
import Derived.Laws.BitsAllLaws
import Derived.ScopeJumps
import Derived.WalkMore
namespace Go.Proofs.YtkgphdicnjkgbaaDoor
open Go Go.RowKit
set_option linter.unusedSimpArgs false
set_option linter.unusedVariables false

theorem row_ext {w w' : World} {b n : Nat} {t : TypeId} {g : Nat → Value} (h : w.rowIs b t n g) (hx : Ext w w') : w'.rowIs b t n g := h.of_block (hx.block _ h.lt)

/-- What ExactSum answers. -/
def esN (e f : Int) (V : Nat → Int) (n : Nat) : Int := if lstB e f V n = true then odV (sumU e f V n) else 0

def esE (e f : Int) (V : Nat → Int) (n : Nat) : Int := if lstB e f V n = true then shE (sumU e f V n) (unV e f) else 0

theorem iExactSum_row (e f : Int) (V : Nat → Int) (b n : Nat) (w : World) (h : w.rowIs b 3 n (fun i => .int .i64 (V i))) (hT : TW w) : Calls Tryd.prog 12 #[fmt e f, .slice (some ⟨b, 0, none⟩) n n] w fun rv w' => rv = .returned (.tuple #[two (esN e f V n) (esE e f V n), .bool (lstB e f V n)]) ∧ Ext w w' := by
  have hc : ∀ i, i < n → w.cell? ((⟨b, 0, none⟩ : Addr).add i) = some (.int .i64 (V i)) := fun i hi => by
    have := h.cell hi
    simp only [Addr.add]; split
    · rename_i h0; subst h0; simpa using this
    · simpa using this
  exact iExactSum_any e f V _ n n w hc h.lt hT
end Go.Proofs.YtkgphdicnjkgbaaDoor

namespace Go.Proofs.YtkgphdicnjkgbaaDoor
open Go Go.RowKit
set_option linter.unusedSimpArgs false
set_option linter.unusedVariables false

/-- What SignOfSum answers. -/
def ssV (e f : Int) (V : Nat → Int) (n : Nat) : Int := if lstB e f V n = true then sgV (sumU e f V n) else 0

theorem sg_es {e f : Int} {V : Nat → Int} {n : Nat} (h : lstB e f V n = true) : sgV (esN e f V n) = ssV e f V n := by
  obtain ⟨hg, h12, hV⟩ := lst_iff.1 h
  have hs := sumU_size hV n (by omega)
  obtain ⟨o1, o2⟩ := od_sign (S := sumU e f V n) (by omega) (by omega)
  unfold esN ssV
  rw [if_pos h, if_pos h]
  unfold sgV
  split <;> split <;> (try split) <;> (try split) <;> omega

theorem iSignOfSum_row (e f : Int) (V : Nat → Int) (b n : Nat) (w : World) (h : w.rowIs b 3 n (fun i => .int .i64 (V i))) (hT : TW w) : Calls Tryd.prog 18 #[fmt e f, .slice (some ⟨b, 0, none⟩) n n] w fun rv w' => rv = .returned (.tuple #[.int .i64 (ssV e f V n), .bool (lstB e f V n)]) ∧ Ext w w' := by
  have IA := Lib.hid (fun w h hT => iExactSum_row e f V b n w h hT)
  have H1 := Lib.hid (fun h => sg_es (e := e) (f := f) (V := V) (n := n) h)
  have H2 : RowKit.Hid (lstB e f V n = false → ssV e f V n = 0) := Lib.hid (fun h => by unfold ssV; rw [h]; rfl)
  generalize ssV e f V n = s at *
  generalize esN e f V n = N at *
  generalize esE e f V n = E at *
  generalize lstB e f V n = B at *
  cases B
  · have h2 := Lib.hid (H2.out rfl)
    clear H1 H2
    go_enter Tryd.func18, Tryd.ntmps18
    go_wp2_with (go_at_call 12; refine (IA.out _ (row_ext h Ext.auK) (hT.ext Ext.auK)).mono ?_; rintro rv w1 ⟨rfl, hb⟩; have ns : w.heap.size < w1.heap.size := hb.ltK; have n0 : w1.cell? ⟨w.heap.size, 0, none⟩ = some (.int .i64 e) := hb.cellK; have n1 : w1.cell? ⟨w.heap.size, 1, none⟩ = some (.int .i64 f) := hb.cellK; (first | (have nx := Ext.trans hx hb; clear hx) | (have nx := Ext.trans (hx.alloc _) hb; clear hx) | (have nx := Ext.trans hx.drew hb; clear hx) | have nx := hb); clear hb; try clear hs; try clear g0; try clear g1; have hx := nx; clear nx; have hs := ns; clear ns; have g0 := n0; clear n0; have g1 := n1; clear n1)
    go_ret2
    exact ⟨by rw [h2.out]; rfl, Ext.auK⟩
  · have h1 := Lib.hid (H1.out rfl)
    clear H1 H2
    go_enter Tryd.func18, Tryd.ntmps18
    go_wp2_with (first | (go_at_call 12; refine (IA.out _ (row_ext h Ext.auK) (hT.ext Ext.auK)).mono ?_; rintro rv w1 ⟨rfl, hb⟩; have ns : w.heap.size < w1.heap.size := hb.ltK; have n0 : w1.cell? ⟨w.heap.size, 0, none⟩ = some (.int .i64 e) := hb.cellK; have n1 : w1.cell? ⟨w.heap.size, 1, none⟩ = some (.int .i64 f) := hb.cellK; (first | (have nx := Ext.trans hx hb; clear hx) | (have nx := Ext.trans (hx.alloc _) hb; clear hx) | (have nx := Ext.trans hx.drew hb; clear hx) | have nx := hb); clear hb; try clear hs; try clear g0; try clear g1; have hx := nx; clear nx; have hs := ns; clear ns; have g0 := n0; clear n0; have g1 := n1; clear n1) | (go_at_call 38; refine (compare_sg _ _ _).mono ?_; rintro rv w1 ⟨rfl, rfl⟩))
    go_ret2
    exact ⟨by rw [← h1.out]; rfl, Ext.auK⟩

theorem sSignOfSum_row (e f : Int) (V : Nat → Int) (b n : Nat) (w : World) (h : w.rowIs b 3 n (fun i => .int .i64 (V i))) : Calls Tryd.prog 17 #[fmt e f, .slice (some ⟨b, 0, none⟩) n n] w fun rv w' => rv = .returned (.tuple #[.int .i64 (ssV e f V n), .bool (lstB e f V n)]) ∧ Ext w w' := by
  have hc : ∀ i, i < n → w.cell? ((⟨b, 0, none⟩ : Addr).add i) = some (.int .i64 (V i)) := fun i hi => by
    have := h.cell hi
    simp only [Addr.add]; split
    · rename_i h0; subst h0; simpa using this
    · simpa using this
  have EA := Lib.hid (fun w hc ha => exList_any e f V ⟨b, 0, none⟩ n n w hc ha)
  have EUA := Lib.hid (fun (h : lstB e f V n = true) w hc ha => exUnits_any e f V ⟨b, 0, none⟩ n n (lst_iff.1 h).2.1 (lst_iff.1 h).2.2 w hc ha)
  have H1 : RowKit.Hid (lstB e f V n = true → sgV (sumU e f V n) = ssV e f V n) := Lib.hid (fun h => by unfold ssV; rw [if_pos h])
  have H2 : RowKit.Hid (lstB e f V n = false → ssV e f V n = 0) := Lib.hid (fun h => by unfold ssV; rw [h]; rfl)
  generalize ssV e f V n = s at *
  generalize sumU e f V n = N at *
  generalize lstB e f V n = B at *
  cases B
  · have h2 := Lib.hid (H2.out rfl)
    clear H1 H2 EUA
    go_enter Tryd.func17, Tryd.ntmps17
    go_wp2_with (go_at_call 25; refine (EA.out _ (fun i hi => (ext_add (a := (⟨b, 0, none⟩ : Addr)) (w := w) Ext.auK h.lt i).trans (hc i hi)) (by first | exact (row_ext h Ext.auK).lt | (simp; have := h.lt; omega))).mono ?_; rintro rv w1 ⟨rfl, hb⟩; have ns : w.heap.size < w1.heap.size := hb.ltK; have n0 : w1.cell? ⟨w.heap.size, 0, none⟩ = some (.int .i64 e) := hb.cellK; have n1 : w1.cell? ⟨w.heap.size, 1, none⟩ = some (.int .i64 f) := hb.cellK; (first | (have nx := Ext.trans hx hb; clear hx) | (have nx := Ext.trans (hx.alloc _) hb; clear hx) | (have nx := Ext.trans hx.drew hb; clear hx) | have nx := hb); clear hb; try clear hs; try clear g0; try clear g1; have hx := nx; clear nx; have hs := ns; clear ns; have g0 := n0; clear n0; have g1 := n1; clear n1)
    go_ret2
    exact ⟨by rw [h2.out]; rfl, Ext.auK⟩
  · have h1 := Lib.hid (H1.out rfl)
    have EUB := Lib.hid (EUA.out rfl)
    clear H1 H2 EUA
    go_enter Tryd.func17, Tryd.ntmps17
    go_wp2_with (first | (go_at_call 25; refine (EA.out _ (fun i hi => (ext_add (a := (⟨b, 0, none⟩ : Addr)) (w := w) Ext.auK h.lt i).trans (hc i hi)) (by first | exact (row_ext h Ext.auK).lt | (simp; have := h.lt; omega))).mono ?_; rintro rv w1 ⟨rfl, hb⟩; have ns : w.heap.size < w1.heap.size := hb.ltK; have n0 : w1.cell? ⟨w.heap.size, 0, none⟩ = some (.int .i64 e) := hb.cellK; have n1 : w1.cell? ⟨w.heap.size, 1, none⟩ = some (.int .i64 f) := hb.cellK; (first | (have nx := Ext.trans hx hb; clear hx) | (have nx := Ext.trans (hx.alloc _) hb; clear hx) | (have nx := Ext.trans hx.drew hb; clear hx) | have nx := hb); clear hb; try clear hs; try clear g0; try clear g1; have hx := nx; clear nx; have hs := ns; clear ns; have g0 := n0; clear n0; have g1 := n1; clear n1) | (go_at_call 27; refine (EUB.out _ (fun i hi => (ext_add (a := (⟨b, 0, none⟩ : Addr)) (w := w) Ext.auK h.lt i).trans (hc i hi)) (by first | exact (row_ext h Ext.auK).lt | (simp; have := h.lt; omega))).mono ?_; rintro rv w1 ⟨rfl, hb⟩; have ns : w.heap.size < w1.heap.size := hb.ltK; have n0 : w1.cell? ⟨w.heap.size, 0, none⟩ = some (.int .i64 e) := hb.cellK; have n1 : w1.cell? ⟨w.heap.size, 1, none⟩ = some (.int .i64 f) := hb.cellK; (first | (have nx := Ext.trans hx hb; clear hx) | (have nx := Ext.trans (hx.alloc _) hb; clear hx) | (have nx := Ext.trans hx.drew hb; clear hx) | have nx := hb); clear hb; try clear hs; try clear g0; try clear g1; have hx := nx; clear nx; have hs := ns; clear ns; have g0 := n0; clear n0; have g1 := n1; clear n1) | (go_at_call 37; refine (rdSignOf_any _ _).mono ?_; rintro rv w1 ⟨rfl, rfl⟩))
    go_ret2
    exact ⟨by rw [← h1.out]; rfl, Ext.auK⟩

set_option maxHeartbeats 3200000 in
theorem wSignOfSum (e f : Int) (p : Option Addr) (n cap : Nat) (V : Nat → Int) (w : World) (hold : HoldsL w p n V) (hT : TW w) : Calls Tryd.prog 6 #[fmt e f, .slice p n cap] w fun rv w' => rv = .returned (.bool true) ∧ Ext w w' := by
  by_cases hn : n ≤ 1048576
  · have h12 : ¬ (1048576 : Int) < (n : Int) := by omega
    have SA := Lib.hid (fun b w h => sSignOfSum_row e f V b n w h)
    have IA := Lib.hid (fun b w h hT => iSignOfSum_row e f V b n w h hT)
    generalize ssV e f V n = N at *
    generalize lstB e f V n = B at *
    cases B
    all_goals
      go_enter Tryd.func6, Tryd.ntmps6
      go_wp2_with (first | (go_at_call 8; refine (toFormat_any e f _).mono ?_; rintro rv w1 ⟨rfl, hb⟩; (try (have Q9 := Lib.hid (row_ext Q.out (Ext.trans Ext.auK hb)); clear Q; have Q := Q9; clear Q9)); (try (have R9 := Lib.hid (row_ext R.out (Ext.trans Ext.auK hb)); clear R; have R := R9; clear R9)); have ns : w.heap.size < w1.heap.size := hb.ltK; have n0 : w1.cell? ⟨w.heap.size, 0, none⟩ = some (.int .i64 e) := hb.cellK; have n1 : w1.cell? ⟨w.heap.size, 1, none⟩ = some (.int .i64 f) := hb.cellK; (first | (have nx := Ext.trans hx hb; clear hx) | (have nx := Ext.trans (hx.alloc _) hb; clear hx) | (have nx := Ext.trans hx.drew hb; clear hx) | have nx := hb); clear hb; try clear hs; try clear g0; try clear g1; have hx := nx; clear nx; have hs := ns; clear ns; have g0 := n0; clear n0; have g1 := n1; clear n1) | (go_at_call 11; refine (toIntS_any p n cap V hn _ (hold.ext Ext.auK)).mono ?_; rintro rv w1 ⟨b, rfl, hq, hrow, hb⟩; (try clear Q); (try (have Q := Lib.hid (row_ext R.out (Ext.trans Ext.auK hb)); clear R)); have R := Lib.hid hrow; clear hrow hq; have ns : w.heap.size < w1.heap.size := hb.ltK; have n0 : w1.cell? ⟨w.heap.size, 0, none⟩ = some (.int .i64 e) := hb.cellK; have n1 : w1.cell? ⟨w.heap.size, 1, none⟩ = some (.int .i64 f) := hb.cellK; (first | (have nx := Ext.trans hx hb; clear hx) | (have nx := Ext.trans (hx.alloc _) hb; clear hx) | (have nx := Ext.trans hx.drew hb; clear hx) | have nx := hb); clear hb; try clear hs; try clear g0; try clear g1; have hx := nx; clear nx; have hs := ns; clear ns; have g0 := n0; clear n0; have g1 := n1; clear n1) | (go_at_call 17; refine (SA.out _ _ (row_ext R.out Ext.auK)).mono ?_; rintro rv w1 ⟨rfl, hb⟩; (try (have Q9 := Lib.hid (row_ext Q.out (Ext.trans Ext.auK hb)); clear Q; have Q := Q9; clear Q9)); (try (have R9 := Lib.hid (row_ext R.out (Ext.trans Ext.auK hb)); clear R; have R := R9; clear R9)); have ns : w.heap.size < w1.heap.size := hb.ltK; have n0 : w1.cell? ⟨w.heap.size, 0, none⟩ = some (.int .i64 e) := hb.cellK; have n1 : w1.cell? ⟨w.heap.size, 1, none⟩ = some (.int .i64 f) := hb.cellK; (first | (have nx := Ext.trans hx hb; clear hx) | (have nx := Ext.trans (hx.alloc _) hb; clear hx) | (have nx := Ext.trans hx.drew hb; clear hx) | have nx := hb); clear hb; try clear hs; try clear g0; try clear g1; have hx := nx; clear nx; have hs := ns; clear ns; have g0 := n0; clear n0; have g1 := n1; clear n1) | (go_at_call 18; refine (IA.out _ _ (row_ext R.out Ext.auK) (hT.ext Ext.auK)).mono ?_; rintro rv w1 ⟨rfl, hb⟩; (try (have Q9 := Lib.hid (row_ext Q.out (Ext.trans Ext.auK hb)); clear Q; have Q := Q9; clear Q9)); (try (have R9 := Lib.hid (row_ext R.out (Ext.trans Ext.auK hb)); clear R; have R := R9; clear R9)); have ns : w.heap.size < w1.heap.size := hb.ltK; have n0 : w1.cell? ⟨w.heap.size, 0, none⟩ = some (.int .i64 e) := hb.cellK; have n1 : w1.cell? ⟨w.heap.size, 1, none⟩ = some (.int .i64 f) := hb.cellK; (first | (have nx := Ext.trans hx hb; clear hx) | (have nx := Ext.trans (hx.alloc _) hb; clear hx) | (have nx := Ext.trans hx.drew hb; clear hx) | have nx := hb); clear hb; try clear hs; try clear g0; try clear g1; have hx := nx; clear nx; have hs := ns; clear ns; have g0 := n0; clear n0; have g1 := n1; clear n1) | (go_at_call 14; refine (eqIntS_same _ _ n n n V hn _ (row_ext Q.out Ext.auK) (row_ext R.out Ext.auK)).mono ?_; rintro rv w1 ⟨rfl, hb⟩; have ns : w.heap.size < w1.heap.size := hb.ltK; have n0 : w1.cell? ⟨w.heap.size, 0, none⟩ = some (.int .i64 e) := hb.cellK; have n1 : w1.cell? ⟨w.heap.size, 1, none⟩ = some (.int .i64 f) := hb.cellK; (first | (have nx := Ext.trans hx hb; clear hx) | (have nx := Ext.trans (hx.alloc _) hb; clear hx) | (have nx := Ext.trans hx.drew hb; clear hx) | have nx := hb); clear hb; try clear hs; try clear g0; try clear g1; have hx := nx; clear nx; have hs := ns; clear ns; have g0 := n0; clear n0; have g1 := n1; clear n1))
      go_ret
      exact ⟨rfl, Ext.auK⟩
  · have h12 : (1048576 : Int) < (n : Int) := by omega
    go_enter Tryd.func6, Tryd.ntmps6
    go_wp2_with fail
    go_ret
    exact ⟨rfl, Ext.auK⟩
end Go.Proofs.YtkgphdicnjkgbaaDoor

