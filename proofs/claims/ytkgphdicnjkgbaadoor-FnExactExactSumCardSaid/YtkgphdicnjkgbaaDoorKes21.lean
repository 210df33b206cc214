/-
  Contracts of the functions that the laws reach, and the plain facts that they rest on, each under the conditions that its line names; part 21.
-/
import Derived.Test.YtkgphdicnjkgbaaDoorKes1
import Derived.Test.YtkgphdicnjkgbaaDoorKes2
import Derived.Test.YtkgphdicnjkgbaaDoorKes3
import Derived.Test.YtkgphdicnjkgbaaDoorKes4
import Derived.Test.YtkgphdicnjkgbaaDoorKes5
import Derived.Test.YtkgphdicnjkgbaaDoorKes6
import Derived.Test.YtkgphdicnjkgbaaDoorKes7
import Derived.Test.YtkgphdicnjkgbaaDoorKes8
import Derived.Test.YtkgphdicnjkgbaaDoorKes9
import Derived.Test.YtkgphdicnjkgbaaDoorKes10
import Derived.Test.YtkgphdicnjkgbaaDoorKes11
import Derived.Test.YtkgphdicnjkgbaaDoorKes12
import Derived.Test.YtkgphdicnjkgbaaDoorKes13
import Derived.Test.YtkgphdicnjkgbaaDoorKes14
import Derived.Test.YtkgphdicnjkgbaaDoorKes15
import Derived.Test.YtkgphdicnjkgbaaDoorKes16
import Derived.Test.YtkgphdicnjkgbaaDoorKes17
import Derived.Test.YtkgphdicnjkgbaaDoorKes18
import Derived.Test.YtkgphdicnjkgbaaDoorKes19
import Derived.Test.YtkgphdicnjkgbaaDoorKes20
import Derived.Test.YtkgphdicnjkgbaaDoorRows
import Derived.WalkKit
import Derived.LoopTactic
import Derived.Laws.Bits64b
import Derived.WalkSpells
import Derived.WalkLawsBesides
import Derived.StillTactics
import Derived.Laws.Pointers
import Derived.Deep.RegionHeld3
import Derived.Deep.QuietTactic
import Derived.BigQuiet
import Derived.Outline
import Derived.Lib.Hide
import Derived.RowKit3
import Derived.Carry
import Derived.IntWalk
import Derived.Shelf.Small.Bits
import Derived.Shelf.Small.Wraps
import Derived.Shelf.Strconv.Itoa0
import Derived.Ground.Names2Prog
import Derived.Shelf.Slices.SearchI
import Derived.Test.YtkgphdicnjkgbaaDoorProg
import Derived.Laws.BitsAllLaws
import Derived.ScopeJumps
import Derived.WalkMore
namespace Go.Proofs.YtkgphdicnjkgbaaDoor
open Go Go.RowKit
set_option linter.unusedSimpArgs false
set_option linter.unusedVariables false

theorem row_ext {w w' : World} {b n : Nat} {t : TypeId} {g : Nat → Value} (h : w.rowIs b t n g) (hx : Ext w w') : w'.rowIs b t n g := h.of_block (hx.block _ h.lt)

/-- What ExactSum answers. -/
def esN (e f : Int) (V : Nat → Int) (n : Nat) : Int := if lstB e f V n = true then odV (sumU e f V n) else 0

def esE (e f : Int) (V : Nat → Int) (n : Nat) : Int := if lstB e f V n = true then shE (sumU e f V n) (unV e f) else 0

theorem sExactSum_row (e f : Int) (V : Nat → Int) (b n : Nat) (w : World) (h : w.rowIs b 3 n (fun i => .int .i64 (V i))) : Calls Tryd.prog 10 #[fmt e f, .slice (some ⟨b, 0, none⟩) n n] w fun rv w' => rv = .returned (.tuple #[two (esN e f V n) (esE e f V n), .bool (lstB e f V n)]) ∧ Ext w w' := by
  have hc : ∀ i, i < n → w.cell? ((⟨b, 0, none⟩ : Addr).add i) = some (.int .i64 (V i)) := fun i hi => by
    have := h.cell hi
    simp only [Addr.add]; split
    · rename_i h0; subst h0; simpa using this
    · simpa using this
  unfold esN esE
  cases hg : lstB e f V n
  · exact sExactSum_no e f V _ n n hg w hc h.lt
  · exact sExactSum_yes e f V _ n n hg w hc h.lt

theorem iExactSum_row (e f : Int) (V : Nat → Int) (b n : Nat) (w : World) (h : w.rowIs b 3 n (fun i => .int .i64 (V i))) (hT : TW w) : Calls Tryd.prog 12 #[fmt e f, .slice (some ⟨b, 0, none⟩) n n] w fun rv w' => rv = .returned (.tuple #[two (esN e f V n) (esE e f V n), .bool (lstB e f V n)]) ∧ Ext w w' := by
  have hc : ∀ i, i < n → w.cell? ((⟨b, 0, none⟩ : Addr).add i) = some (.int .i64 (V i)) := fun i hi => by
    have := h.cell hi
    simp only [Addr.add]; split
    · rename_i h0; subst h0; simpa using this
    · simpa using this
  exact iExactSum_any e f V _ n n w hc h.lt hT

set_option maxHeartbeats 3200000 in
theorem wExactSum (e f : Int) (p : Option Addr) (n cap : Nat) (V : Nat → Int) (w : World) (hold : HoldsL w p n V) (hT : TW w) : Calls Tryd.prog 4 #[fmt e f, .slice p n cap] w fun rv w' => rv = .returned (.bool true) ∧ Ext w w' := by
  by_cases hn : n ≤ 1048576
  · have h12 : ¬ (1048576 : Int) < (n : Int) := by omega
    have SA := Lib.hid (fun b w h => sExactSum_row e f V b n w h)
    have IA := Lib.hid (fun b w h hT => iExactSum_row e f V b n w h hT)
    generalize esN e f V n = N at *
    generalize esE e f V n = E at *
    generalize lstB e f V n = B at *
    have tok1 : True := True.intro
    cases B
    all_goals
      go_enter Tryd.func4, Tryd.ntmps4
      go_wp2_with (first | (go_at_call 8; refine (toFormat_any e f _).mono ?_; rintro rv w1 ⟨rfl, hb⟩; have _t := tok1; clear _t; (try (have Q9 := Lib.hid (row_ext Q.out (Ext.trans Ext.auK hb)); clear Q; have Q := Q9; clear Q9)); (try (have R9 := Lib.hid (row_ext R.out (Ext.trans Ext.auK hb)); clear R; have R := R9; clear R9)); have ns : w.heap.size < w1.heap.size := hb.ltK; have n0 : w1.cell? ⟨w.heap.size, 0, none⟩ = some (.int .i64 e) := hb.cellK; have n1 : w1.cell? ⟨w.heap.size, 1, none⟩ = some (.int .i64 f) := hb.cellK; (first | (have nx := Ext.trans hx hb; clear hx) | (have nx := Ext.trans (hx.alloc _) hb; clear hx) | (have nx := Ext.trans hx.drew hb; clear hx) | have nx := hb); clear hb; try clear hs; try clear g0; try clear g1; have hx := nx; clear nx; have hs := ns; clear ns; have g0 := n0; clear n0; have g1 := n1; clear n1) | (go_at_call 11; refine (toIntS_any p n cap V hn _ (hold.ext Ext.auK)).mono ?_; have _t := tok1; clear _t; rintro rv w1 ⟨b, rfl, hq, hrow, hb⟩; (try clear Q); (try (have Q := Lib.hid (row_ext R.out (Ext.trans Ext.auK hb)); clear R)); have R := Lib.hid hrow; clear hrow hq; have ns : w.heap.size < w1.heap.size := hb.ltK; have n0 : w1.cell? ⟨w.heap.size, 0, none⟩ = some (.int .i64 e) := hb.cellK; have n1 : w1.cell? ⟨w.heap.size, 1, none⟩ = some (.int .i64 f) := hb.cellK; (first | (have nx := Ext.trans hx hb; clear hx) | (have nx := Ext.trans (hx.alloc _) hb; clear hx) | (have nx := Ext.trans hx.drew hb; clear hx) | have nx := hb); clear hb; try clear hs; try clear g0; try clear g1; have hx := nx; clear nx; have hs := ns; clear ns; have g0 := n0; clear n0; have g1 := n1; clear n1) | (go_at_call 10; refine (SA.out _ _ (row_ext R.out Ext.auK)).mono ?_; rintro rv ws ⟨rfl, hb⟩; clear tok1; (try (have Q9 := Lib.hid (row_ext Q.out (Ext.trans Ext.auK hb)); clear Q; have Q := Q9; clear Q9)); (try (have R9 := Lib.hid (row_ext R.out (Ext.trans Ext.auK hb)); clear R; have R := R9; clear R9)); have ns : w.heap.size < ws.heap.size := hb.ltK; have n0 : ws.cell? ⟨w.heap.size, 0, none⟩ = some (.int .i64 e) := hb.cellK; have n1 : ws.cell? ⟨w.heap.size, 1, none⟩ = some (.int .i64 f) := hb.cellK; (first | (have nx := Ext.trans hx hb; clear hx) | (have nx := Ext.trans (hx.alloc _) hb; clear hx) | (have nx := Ext.trans hx.drew hb; clear hx) | have nx := hb); clear hb; try clear hs; try clear g0; try clear g1; have hx := nx; clear nx; have hs := ns; clear ns; have g0 := n0; clear n0; have g1 := n1; clear n1) | (go_at_call 8; refine (toFormat_any e f _).mono ?_; rintro rv w1 ⟨rfl, hb⟩; (try (have Q9 := Lib.hid (row_ext Q.out (Ext.trans Ext.auK hb)); clear Q; have Q := Q9; clear Q9)); (try (have R9 := Lib.hid (row_ext R.out (Ext.trans Ext.auK hb)); clear R; have R := R9; clear R9)); have ns : ws.heap.size < w1.heap.size := hb.ltK; have n0 : w1.cell? ⟨w.heap.size, 0, none⟩ = some (.int .i64 e) := hb.cellK; have n1 : w1.cell? ⟨w.heap.size, 1, none⟩ = some (.int .i64 f) := hb.cellK; have n2 : w1.cell? ⟨ws.heap.size, 0, none⟩ = some (.int .i64 N) := hb.cellK; have n3 : w1.cell? ⟨ws.heap.size, 1, none⟩ = some (.int .i64 E) := hb.cellK; (first | (have nx := Ext.trans hx hb; clear hx) | (have nx := Ext.trans (hx.alloc _) hb; clear hx) | (have nx := Ext.trans hx.drew hb; clear hx) | have nx := hb); clear hb; try clear hs; try clear g0; try clear g1; try clear g2; try clear g3; have hx := nx; clear nx; have hs := ns; clear ns; have g0 := n0; clear n0; have g1 := n1; clear n1; have g2 := n2; clear n2; have g3 := n3; clear n3) | (go_at_call 11; refine (toIntS_any p n cap V hn _ (hold.ext Ext.auK)).mono ?_; rintro rv w1 ⟨b, rfl, hq, hrow, hb⟩; (try clear Q); (try (have Q := Lib.hid (row_ext R.out (Ext.trans Ext.auK hb)); clear R)); have R := Lib.hid hrow; clear hrow hq; have ns : ws.heap.size < w1.heap.size := hb.ltK; have n0 : w1.cell? ⟨w.heap.size, 0, none⟩ = some (.int .i64 e) := hb.cellK; have n1 : w1.cell? ⟨w.heap.size, 1, none⟩ = some (.int .i64 f) := hb.cellK; have n2 : w1.cell? ⟨ws.heap.size, 0, none⟩ = some (.int .i64 N) := hb.cellK; have n3 : w1.cell? ⟨ws.heap.size, 1, none⟩ = some (.int .i64 E) := hb.cellK; (first | (have nx := Ext.trans hx hb; clear hx) | (have nx := Ext.trans (hx.alloc _) hb; clear hx) | (have nx := Ext.trans hx.drew hb; clear hx) | have nx := hb); clear hb; try clear hs; try clear g0; try clear g1; try clear g2; try clear g3; have hx := nx; clear nx; have hs := ns; clear ns; have g0 := n0; clear n0; have g1 := n1; clear n1; have g2 := n2; clear n2; have g3 := n3; clear n3) | (go_at_call 12; refine (IA.out _ _ (row_ext R.out Ext.auK) (hT.ext Ext.auK)).mono ?_; rintro rv w1 ⟨rfl, hb⟩; (try (have Q9 := Lib.hid (row_ext Q.out (Ext.trans Ext.auK hb)); clear Q; have Q := Q9; clear Q9)); (try (have R9 := Lib.hid (row_ext R.out (Ext.trans Ext.auK hb)); clear R; have R := R9; clear R9)); have ns : ws.heap.size < w1.heap.size := hb.ltK; have n0 : w1.cell? ⟨w.heap.size, 0, none⟩ = some (.int .i64 e) := hb.cellK; have n1 : w1.cell? ⟨w.heap.size, 1, none⟩ = some (.int .i64 f) := hb.cellK; have n2 : w1.cell? ⟨ws.heap.size, 0, none⟩ = some (.int .i64 N) := hb.cellK; have n3 : w1.cell? ⟨ws.heap.size, 1, none⟩ = some (.int .i64 E) := hb.cellK; (first | (have nx := Ext.trans hx hb; clear hx) | (have nx := Ext.trans (hx.alloc _) hb; clear hx) | (have nx := Ext.trans hx.drew hb; clear hx) | have nx := hb); clear hb; try clear hs; try clear g0; try clear g1; try clear g2; try clear g3; have hx := nx; clear nx; have hs := ns; clear ns; have g0 := n0; clear n0; have g1 := n1; clear n1; have g2 := n2; clear n2; have g3 := n3; clear n3) | (go_at_call 13; refine (eqDyadic_same _ _ _).mono ?_; rintro rv w1 ⟨rfl, hb⟩; (try (have Q9 := Lib.hid (row_ext Q.out (Ext.trans Ext.auK hb)); clear Q; have Q := Q9; clear Q9)); (try (have R9 := Lib.hid (row_ext R.out (Ext.trans Ext.auK hb)); clear R; have R := R9; clear R9)); have ns : ws.heap.size < w1.heap.size := hb.ltK; (first | (have nx := Ext.trans hx hb; clear hx) | (have nx := Ext.trans (hx.alloc _) hb; clear hx) | (have nx := Ext.trans hx.drew hb; clear hx) | have nx := hb); clear hb; try clear hs; have hx := nx; clear nx; have hs := ns; clear ns) | (go_at_call 14; refine (eqIntS_same _ _ n n n V hn _ (row_ext Q.out Ext.auK) (row_ext R.out Ext.auK)).mono ?_; rintro rv w1 ⟨rfl, hb⟩; have ns : ws.heap.size < w1.heap.size := hb.ltK; (first | (have nx := Ext.trans hx hb; clear hx) | (have nx := Ext.trans (hx.alloc _) hb; clear hx) | (have nx := Ext.trans hx.drew hb; clear hx) | have nx := hb); clear hb; try clear hs; have hx := nx; clear nx; have hs := ns; clear ns) | (go_at_call 11; refine (toIntS_any p n cap V hn _ (hold.ext Ext.auK)).mono ?_; rintro rv w1 ⟨b, rfl, hq, hrow, hb⟩; (try clear Q); (try (have Q := Lib.hid (row_ext R.out (Ext.trans Ext.auK hb)); clear R)); have R := Lib.hid hrow; clear hrow hq; have ns : ws.heap.size < w1.heap.size := hb.ltK; (first | (have nx := Ext.trans hx hb; clear hx) | (have nx := Ext.trans (hx.alloc _) hb; clear hx) | (have nx := Ext.trans hx.drew hb; clear hx) | have nx := hb); clear hb; try clear hs; have hx := nx; clear nx; have hs := ns; clear ns))
      go_ret
      exact ⟨rfl, Ext.auK⟩
  · have h12 : (1048576 : Int) < (n : Int) := by omega
    go_enter Tryd.func4, Tryd.ntmps4
    go_wp2_with fail
    go_ret
    exact ⟨rfl, Ext.auK⟩
end Go.Proofs.YtkgphdicnjkgbaaDoor

