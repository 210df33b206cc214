/-
  Contracts of the functions that the laws reach, and the plain facts that they rest on, each under the conditions that its line names; part 5.
-/
import Derived.Test.YtdagfocpbnamfaaDoorKbd1
import Derived.Test.YtdagfocpbnamfaaDoorRows
import Derived.WalkKit
import Derived.WalkSpells
import Derived.WalkLawsBesides
import Derived.StillTactics
import Derived.Laws.Pointers
import Derived.Deep.RegionHeld3
import Derived.Deep.QuietTactic
import Derived.BigQuiet
import Derived.Outline
import Derived.Lib.Hide
import Derived.RowKit3
import Derived.Carry
import Derived.IntWalk
namespace Go.Proofs.YtdagfocpbnamfaaDoor
open Go Go.RowKit
set_option linter.unusedSimpArgs false
set_option linter.unusedVariables false

abbrev fmt (e f : Int) : Value := .agg #[.int .i64 e, .int .i64 f]

/-- New blocks lie behind; nothing that was there has turned. -/
def Ext (w w' : World) : Prop := Below w.heap.size w w'

theorem Ext.refl (w : World) : Ext w w := Below.refl _ _

theorem Ext.trans {a b c : World} (h : Ext a b) (k : Ext b c) : Ext a c := Below.trans h (Below.mono k (Below.size h))

theorem Ext.alloc {a b : World} (h : Ext a b) (o : Obj) : Ext a (b.alloc o) := Below.alloc h (Below.size h) o

theorem Ext.drew {a b : World} (h : Ext a b) : Ext a b.drew := Below.drew h

theorem below_drewN {B : Nat} {a b : World} (h : Below B a b) (n : Nat) : Below B a (b.drewN n) := ⟨h.os, h.tape, h.output, h.size, h.block⟩

theorem Ext.drewN {a b : World} (h : Ext a b) (n : Nat) : Ext a (b.drewN n) := below_drewN h n

theorem Ext.setCell {a b : World} (h : Ext a b) {p : Addr} (hp : a.heap.size ≤ p.block) (v : Value) : Ext a (b.setCell p v) := Below.setCell h hp v

theorem Ext.new (a : World) (o : Obj) : Ext a (a.alloc o) := (Ext.refl a).alloc o

theorem Ext.cells {a b : World} (h : Ext a b) : ∀ k o, k < a.heap.size → b.cell? ⟨k, o, none⟩ = a.cell? ⟨k, o, none⟩ := fun k o hk => Below.cell (p := ⟨k, o, none⟩) h hk

theorem Ext.frz {a b : World} (h : Ext a b) : ∀ k o, k < a.heap.size → b.frozen? ⟨k, o, none⟩ = a.frozen? ⟨k, o, none⟩ := fun k o hk => Below.frozen (p := ⟨k, o, none⟩) h hk

theorem Ext.heap {a b : World} (h : Ext a b) : ∀ k, k < a.heap.size → b.heap[k]? = a.heap[k]? := Below.block h

theorem setRow_far (w : World) (g k : Nat) (cs : Array Value) (h : k ≠ g) : (w.setRow g cs).heap[k]? = w.heap[k]? := by
  simp only [World.setRow, Array.getElem?_modify]
  rw [if_neg (by omega)]

theorem cell_setRow_far (w : World) (g k o : Nat) (cs : Array Value) (h : k ≠ g) : (w.setRow g cs).cell? ⟨k, o, none⟩ = w.cell? ⟨k, o, none⟩ := by
  unfold World.cell?
  rw [setRow_far w g k cs h]

theorem cell_alloc_before (w : World) (A : Obj) (k o : Nat) (h : k < w.heap.size) : (w.alloc A).cell? ⟨k, o, none⟩ = w.cell? ⟨k, o, none⟩ := (Ext.new w A).cells k o h

theorem below_setRow {B : Nat} {a b : World} (h : Below B a b) {g : Nat} (hg : B ≤ g) (cs : Array Value) : Below B a (b.setRow g cs) :=
  h.trans ⟨rfl, rfl, rfl, by simp [World.setRow], fun k hk => setRow_far _ _ _ _ (by omega)⟩

theorem Ext.setRow {a b : World} (h : Ext a b) {g : Nat} (hg : a.heap.size ≤ g) (cs : Array Value) : Ext a (b.setRow g cs) := below_setRow h hg cs

theorem setRow_size (w : World) (g : Nat) (cs : Array Value) : (w.setRow g cs).heap.size = w.heap.size := by simp [World.setRow]

theorem Ext.lt {a b : World} (h : Ext a b) {k : Nat} (hk : k < a.heap.size) : k < b.heap.size := Nat.lt_of_lt_of_le hk (Below.size h)

theorem ret_bool {a b : Bool} (h : a = b) : Ending.returned (.bool a) = .returned (.bool b) := by rw [h]

theorem ret_int {k : IntKind} {a b : Int} (h : a = b) : Ending.returned (.int k a) = .returned (.int k b) := by rw [h]

theorem l1In_any (n lo hi : Int) (w : World) : Calls Tryd.prog 19 #[.int .i64 n, .int .i64 lo, .int .i64 hi] w fun rv w' => rv = .returned (.bool (decide (lo ≤ n ∧ n ≤ hi))) ∧ w = w' := by
  by_cases h1 : lo ≤ n <;> by_cases h2 : n ≤ hi
  all_goals
    go_enter Tryd.func19, Tryd.ntmps19
    go_wp2
    go_ret
    exact ⟨by simp [h1, h2] <;> omega, rfl⟩

theorem fmGood_any (e f : Int) (w : World) : Calls Tryd.prog 10 #[fmt e f] w fun rv w' => rv = .returned (.bool (goodB e f)) ∧ Ext w w' := by
  by_cases h1 : 2 ≤ e ∧ e ≤ 5
  · have hd : decide (2 ≤ e ∧ e ≤ 5) = true := by simpa using h1
    go_enter Tryd.func10, Tryd.ntmps10
    go_wp2_with (go_at_call 19; refine (l1In_any _ _ _ _).mono ?_; rintro rv w1 ⟨rfl, rfl⟩)
    go_ret
    exact ⟨ret_bool (by simp [goodB, h1.1, h1.2]), Ext.new _ _⟩
  · have hd : decide (2 ≤ e ∧ e ≤ 5) = false := by simpa using h1
    go_enter Tryd.func10, Tryd.ntmps10
    go_wp2_with (go_at_call 19; refine (l1In_any _ _ _ _).mono ?_; rintro rv w1 ⟨rfl, rfl⟩)
    go_ret
    exact ⟨ret_bool (by simp [goodB]; omega), Ext.new _ _⟩

theorem isFormat_any (e f : Int) (w : World) : Calls Tryd.prog 27 #[fmt e f] w fun rv w' => rv = .returned (.bool (goodB e f)) ∧ Ext w w' := by
  by_cases h1 : 2 ≤ e
  · by_cases h2 : e ≤ 5
    · by_cases h3 : 1 ≤ f
      · go_enter Tryd.func27, Tryd.ntmps27
        go_wp2
        go_ret
        exact ⟨ret_bool (by simp [goodB, h1, h2, h3]), Ext.new _ _⟩
      · go_enter Tryd.func27, Tryd.ntmps27
        go_wp2
        go_ret
        exact ⟨ret_bool (by simp [goodB]; omega), Ext.new _ _⟩
    · go_enter Tryd.func27, Tryd.ntmps27
      go_wp2
      go_ret
      exact ⟨ret_bool (by simp [goodB]; omega), Ext.new _ _⟩
  · go_enter Tryd.func27, Tryd.ntmps27
    go_wp2
    go_ret
    exact ⟨ret_bool (by simp [goodB]; omega), Ext.new _ _⟩

theorem toFormat_any (e f : Int) (w : World) : Calls Tryd.prog 5 #[fmt e f] w fun rv w' => rv = .returned (fmt e f) ∧ Ext w w' := by
  go_enter Tryd.func5, Tryd.ntmps5
  go_wp2
  exact bodyPost_ret (v := fmt e f) (by simp [results, Tryd.results5, go_sem]) rfl ⟨rfl, ((Ext.new _ _).alloc _).alloc _⟩

theorem fmOnes_any (e f : Int) (hg : goodB e f = true) (w : World) : Calls Tryd.prog 22 #[fmt e f] w fun rv w' => rv = .returned (.int .i64 (pw e - 1)) ∧ Ext w w' := by
  obtain ⟨h1, h2, h3, h4⟩ := good_iff.1 hg
  obtain ⟨⟨a1, a2⟩, ⟨b1, b2⟩, ⟨c1, c2⟩, hmul⟩ := pw_facts h1 h2 h3 h4
  have Hmul := Lib.hid hmul; clear hmul
  have k1 := pw_of e
  go_enter Tryd.func22, Tryd.ntmps22
  go_wp2
  go_ret
  exact ⟨rfl, Ext.new _ _⟩

theorem fmBias_any (e f : Int) (hg : goodB e f = true) (w : World) : Calls Tryd.prog 23 #[fmt e f] w fun rv w' => rv = .returned (.int .i64 (pw (e - 1) - 1)) ∧ Ext w w' := by
  obtain ⟨h1, h2, h3, h4⟩ := good_iff.1 hg
  obtain ⟨⟨a1, a2⟩, ⟨b1, b2⟩, ⟨c1, c2⟩, hmul⟩ := pw_facts h1 h2 h3 h4
  have Hmul := Lib.hid hmul; clear hmul
  have k1 : (2 : Int) ^ (e.toNat - 1) = pw (e - 1) := by unfold pw; congr 1; omega
  have k2 : 1 ≤ pw (e - 1) := pw_pos _
  have k3 : pw (e - 1) ≤ 16 := pw_le 4 16 rfl (by omega)
  go_enter Tryd.func23, Tryd.ntmps23
  go_wp2
  go_ret
  exact ⟨rfl, Ext.new _ _⟩
end Go.Proofs.YtdagfocpbnamfaaDoor

namespace Go.Proofs.YtdagfocpbnamfaaDoor
open Go Go.RowKit
set_option linter.unusedSimpArgs false
set_option linter.unusedVariables false

theorem iBiasOf_yes (e f : Int) (hg : goodB e f = true) (w : World) : Calls Tryd.prog 32 #[fmt e f] w fun rv w' => rv = .returned (.tuple #[.int .i64 (pw (e - 1) - 1), .bool true]) ∧ Ext w w' := by
  obtain ⟨h1, h2, h3, h4⟩ := good_iff.1 hg
  obtain ⟨⟨a1, a2⟩, ⟨b1, b2⟩, ⟨c1, c2⟩, hmul⟩ := pw_facts h1 h2 h3 h4
  have Hmul := Lib.hid hmul; clear hmul
  have k1 : (2 : Int) ^ (e.toNat - 1) = pw (e - 1) := by unfold pw; congr 1; omega
  have k2 : 1 ≤ pw (e - 1) := pw_pos _
  have k3 : pw (e - 1) ≤ 16 := pw_le 4 16 rfl (by omega)
  go_enter Tryd.func32, Tryd.ntmps32
  go_wp2_with (first | (go_at_call 27; refine (isFormat_any e f _).mono ?_; rintro rv w1 ⟨rfl, hb⟩; have ns : w.heap.size < w1.heap.size := hb.lt (by first | with_reducible assumption | omega | (simp; done) | (simp; omega)); have n0 : w1.cell? ⟨w.heap.size, 0, none⟩ = some (.int .i64 e) := (hb.cells _ _ (by first | with_reducible assumption | omega | (simp; done) | (simp; omega))).trans (by first | with_reducible assumption | (simp; done) | (simp; with_reducible assumption) | (rw [cell_alloc_before _ _ _ _ (by omega)]; with_reducible assumption) | (simp [go_sem, *]; done)); have n1 : w1.cell? ⟨w.heap.size, 1, none⟩ = some (.int .i64 f) := (hb.cells _ _ (by first | with_reducible assumption | omega | (simp; done) | (simp; omega))).trans (by first | with_reducible assumption | (simp; done) | (simp; with_reducible assumption) | (rw [cell_alloc_before _ _ _ _ (by omega)]; with_reducible assumption) | (simp [go_sem, *]; done)); (first | (have nx := Ext.trans hx hb; clear hx) | (have nx := Ext.trans (hx.alloc _) hb; clear hx) | (have nx := Ext.trans hx.drew hb; clear hx) | have nx := hb); clear hb; try clear hs; try clear g0; try clear g1; have hx := nx; clear nx; have hs := ns; clear ns; have g0 := n0; clear n0; have g1 := n1; clear n1))
  go_ret2
  exact ⟨rfl, (by repeat (first | exact Ext.refl _ | with_reducible assumption | apply Ext.alloc | apply Ext.drew | apply Ext.drewN | (refine Ext.setRow ?_ (by first | (simp; done) | (simp; omega) | omega) _) | (refine Ext.setCell ?_ (by first | (simp; done) | (simp; omega) | omega) _) | (refine Ext.trans ?_ (by with_reducible assumption))))⟩
end Go.Proofs.YtdagfocpbnamfaaDoor

