/-
  Contracts of the functions that the laws reach, and the plain facts that they rest on, each under the conditions that its line names; part 4.
-/
import Derived.Test.YtmddlbphanlfhaaGreatDoorKps1
import Derived.Test.YtmddlbphanlfhaaGreatDoorRows
import Derived.WalkKit
import Derived.WalkSpells
import Derived.WalkLawsBesides
import Derived.StillTactics
import Derived.Laws.Pointers
import Derived.Deep.RegionHeld3
import Derived.Deep.QuietTactic
import Derived.BigQuiet
import Derived.Outline
import Derived.Lib.Hide
import Derived.RowKit3
import Derived.Carry
import Derived.IntWalk
namespace Go.Proofs.YtmddlbphanlfhaaGreatDoor
open Go Go.RowKit
set_option linter.unusedSimpArgs false
set_option linter.unusedVariables false

abbrev fmt (e f : Int) : Value := .agg #[.int .i64 e, .int .i64 f]

/-- New blocks lie behind; nothing that was there has turned. -/
def Ext (w w' : World) : Prop := Below w.heap.size w w'

theorem Ext.refl (w : World) : Ext w w := Below.refl _ _

theorem Ext.trans {a b c : World} (h : Ext a b) (k : Ext b c) : Ext a c := Below.trans h (Below.mono k (Below.size h))

theorem Ext.alloc {a b : World} (h : Ext a b) (o : Obj) : Ext a (b.alloc o) := Below.alloc h (Below.size h) o

theorem Ext.drew {a b : World} (h : Ext a b) : Ext a b.drew := Below.drew h

theorem below_drewN {B : Nat} {a b : World} (h : Below B a b) (n : Nat) : Below B a (b.drewN n) := ⟨h.os, h.tape, h.output, h.size, h.block⟩

theorem Ext.drewN {a b : World} (h : Ext a b) (n : Nat) : Ext a (b.drewN n) := below_drewN h n

theorem Ext.setCell {a b : World} (h : Ext a b) {p : Addr} (hp : a.heap.size ≤ p.block) (v : Value) : Ext a (b.setCell p v) := Below.setCell h hp v

theorem Ext.new (a : World) (o : Obj) : Ext a (a.alloc o) := (Ext.refl a).alloc o

theorem Ext.cells {a b : World} (h : Ext a b) : ∀ k o, k < a.heap.size → b.cell? ⟨k, o, none⟩ = a.cell? ⟨k, o, none⟩ := fun k o hk => Below.cell (p := ⟨k, o, none⟩) h hk

theorem Ext.frz {a b : World} (h : Ext a b) : ∀ k o, k < a.heap.size → b.frozen? ⟨k, o, none⟩ = a.frozen? ⟨k, o, none⟩ := fun k o hk => Below.frozen (p := ⟨k, o, none⟩) h hk

theorem Ext.heap {a b : World} (h : Ext a b) : ∀ k, k < a.heap.size → b.heap[k]? = a.heap[k]? := Below.block h

theorem setRow_far (w : World) (g k : Nat) (cs : Array Value) (h : k ≠ g) : (w.setRow g cs).heap[k]? = w.heap[k]? := by
  simp only [World.setRow, Array.getElem?_modify]
  rw [if_neg (by omega)]

theorem cell_setRow_far (w : World) (g k o : Nat) (cs : Array Value) (h : k ≠ g) : (w.setRow g cs).cell? ⟨k, o, none⟩ = w.cell? ⟨k, o, none⟩ := by
  unfold World.cell?
  rw [setRow_far w g k cs h]

theorem cell_alloc_before (w : World) (A : Obj) (k o : Nat) (h : k < w.heap.size) : (w.alloc A).cell? ⟨k, o, none⟩ = w.cell? ⟨k, o, none⟩ := (Ext.new w A).cells k o h

theorem below_setRow {B : Nat} {a b : World} (h : Below B a b) {g : Nat} (hg : B ≤ g) (cs : Array Value) : Below B a (b.setRow g cs) :=
  h.trans ⟨rfl, rfl, rfl, by simp [World.setRow], fun k hk => setRow_far _ _ _ _ (by omega)⟩

theorem Ext.setRow {a b : World} (h : Ext a b) {g : Nat} (hg : a.heap.size ≤ g) (cs : Array Value) : Ext a (b.setRow g cs) := below_setRow h hg cs

theorem setRow_size (w : World) (g : Nat) (cs : Array Value) : (w.setRow g cs).heap.size = w.heap.size := by simp [World.setRow]

theorem Ext.lt {a b : World} (h : Ext a b) {k : Nat} (hk : k < a.heap.size) : k < b.heap.size := Nat.lt_of_lt_of_le hk (Below.size h)

theorem Ext.ltK {a b : World} (h : Ext a b) {k : Nat} (hk : k < a.heap.size := by first | with_reducible assumption | omega | (simp; done) | (simp; omega)) : k < b.heap.size := h.lt hk

theorem Ext.cellK {a b : World} (h : Ext a b) {k o : Nat} {v : Value} (hk : k < a.heap.size := by first | with_reducible assumption | omega | (simp; done) | (simp; omega)) (hc : a.cell? ⟨k, o, none⟩ = some v := by first | with_reducible assumption | (simp; done) | (simp; with_reducible assumption) | (rw [cell_alloc_before _ _ _ _ (by omega)]; with_reducible assumption) | (simp [go_sem, *]; done)) : b.cell? ⟨k, o, none⟩ = some v := (h.cells _ _ hk).trans hc

theorem Ext.frzK {a b : World} (h : Ext a b) {k o : Nat} (hk : k < a.heap.size := by first | with_reducible assumption | omega | (simp; done) | (simp; omega)) (hc : a.frozen? ⟨k, o, none⟩ = false := by first | with_reducible assumption | (simp [go_sem]; done) | (simp [go_sem]; with_reducible assumption)) : b.frozen? ⟨k, o, none⟩ = false := (h.frz _ _ hk).trans hc

theorem Ext.auK {a b : World} (h : Ext a b := by repeat (first | exact Ext.refl _ | with_reducible assumption | apply Ext.alloc | apply Ext.drew | apply Ext.drewN | (refine Ext.setRow ?_ (by first | (simp; done) | (simp; omega) | omega) _) | (refine Ext.setCell ?_ (by first | (simp; done) | (simp; omega) | omega) _) | (refine Ext.trans ?_ (by with_reducible assumption)))) : Ext a b := h

theorem Ext.trK {a b c d : World} (x : Ext a b) (y : Ext c d) (h : Ext b c := by first | with_reducible exact Ext.refl _ | with_reducible exact (Ext.refl _).alloc _ | with_reducible exact Ext.drew (Ext.refl _)) : Ext a d := Ext.trans (Ext.trans x h) y

theorem ret_bool {a b : Bool} (h : a = b) : Ending.returned (.bool a) = .returned (.bool b) := by rw [h]

theorem ret_int {k : IntKind} {a b : Int} (h : a = b) : Ending.returned (.int k a) = .returned (.int k b) := by rw [h]

theorem l1In_any (n lo hi : Int) (w : World) : Calls Tryz.prog 36 #[.int .i64 n, .int .i64 lo, .int .i64 hi] w fun rv w' => rv = .returned (.bool (decide (lo ≤ n ∧ n ≤ hi))) ∧ w = w' := by
  by_cases h1 : lo ≤ n <;> by_cases h2 : n ≤ hi
  all_goals
    go_enter Tryz.func36, Tryz.ntmps36
    go_wp2
    go_ret
    exact ⟨by simp [h1, h2] <;> omega, rfl⟩

theorem fmGood_any (e f : Int) (w : World) : Calls Tryz.prog 14 #[fmt e f] w fun rv w' => rv = .returned (.bool (goodB e f)) ∧ Ext w w' := by
  by_cases h1 : 2 ≤ e ∧ e ≤ 5
  · have hd : decide (2 ≤ e ∧ e ≤ 5) = true := by simpa using h1
    go_enter Tryz.func14, Tryz.ntmps14
    go_wp2_with (go_at_call 36; refine (l1In_any _ _ _ _).mono ?_; rintro rv w1 ⟨rfl, rfl⟩)
    go_ret
    exact ⟨ret_bool (by simp [goodB, h1.1, h1.2]), Ext.new _ _⟩
  · have hd : decide (2 ≤ e ∧ e ≤ 5) = false := by simpa using h1
    go_enter Tryz.func14, Tryz.ntmps14
    go_wp2_with (go_at_call 36; refine (l1In_any _ _ _ _).mono ?_; rintro rv w1 ⟨rfl, rfl⟩)
    go_ret
    exact ⟨ret_bool (by simp [goodB]; omega), Ext.new _ _⟩

theorem isFormat_any (e f : Int) (w : World) : Calls Tryz.prog 22 #[fmt e f] w fun rv w' => rv = .returned (.bool (goodB e f)) ∧ Ext w w' := by
  by_cases h1 : 2 ≤ e
  · by_cases h2 : e ≤ 5
    · by_cases h3 : 1 ≤ f
      · go_enter Tryz.func22, Tryz.ntmps22
        go_wp2
        go_ret
        exact ⟨ret_bool (by simp [goodB, h1, h2, h3]), Ext.new _ _⟩
      · go_enter Tryz.func22, Tryz.ntmps22
        go_wp2
        go_ret
        exact ⟨ret_bool (by simp [goodB]; omega), Ext.new _ _⟩
    · go_enter Tryz.func22, Tryz.ntmps22
      go_wp2
      go_ret
      exact ⟨ret_bool (by simp [goodB]; omega), Ext.new _ _⟩
  · go_enter Tryz.func22, Tryz.ntmps22
    go_wp2
    go_ret
    exact ⟨ret_bool (by simp [goodB]; omega), Ext.new _ _⟩

theorem toFormat_any (e f : Int) (w : World) : Calls Tryz.prog 6 #[fmt e f] w fun rv w' => rv = .returned (fmt e f) ∧ Ext w w' := by
  go_enter Tryz.func6, Tryz.ntmps6
  go_wp2
  exact bodyPost_ret (v := fmt e f) (by simp [results, Tryz.results6, go_sem]) rfl ⟨rfl, ((Ext.new _ _).alloc _).alloc _⟩

theorem signBit_any (e f : Int) (hg : goodB e f = true) (w : World) : Calls Tryz.prog 93 #[fmt e f] w fun rv w' => rv = .returned (.int .i64 (pw (e + f))) ∧ Ext w w' := by
  obtain ⟨h1, h2, h3, h4⟩ := good_iff.1 hg
  obtain ⟨⟨a1, a2⟩, ⟨b1, b2⟩, ⟨c1, c2⟩, hmul⟩ := pw_facts h1 h2 h3 h4
  have Hmul := Lib.hid hmul; clear hmul
  have k1 := pw_of (e + f)
  go_enter Tryz.func93, Tryz.ntmps93
  go_wp2
  go_ret
  exact ⟨rfl, Ext.new _ _⟩

theorem exponentOnes_any (e f : Int) (hg : goodB e f = true) (w : World) : Calls Tryz.prog 83 #[fmt e f] w fun rv w' => rv = .returned (.int .i64 (pw e - 1)) ∧ Ext w w' := by
  obtain ⟨h1, h2, h3, h4⟩ := good_iff.1 hg
  obtain ⟨⟨a1, a2⟩, ⟨b1, b2⟩, ⟨c1, c2⟩, hmul⟩ := pw_facts h1 h2 h3 h4
  have Hmul := Lib.hid hmul; clear hmul
  have k1 := pw_of e
  go_enter Tryz.func83, Tryz.ntmps83
  go_wp2
  go_ret
  exact ⟨rfl, Ext.new _ _⟩

theorem fractionOnes_any (e f : Int) (hg : goodB e f = true) (w : World) : Calls Tryz.prog 162 #[fmt e f] w fun rv w' => rv = .returned (.int .i64 (pw f - 1)) ∧ Ext w w' := by
  obtain ⟨h1, h2, h3, h4⟩ := good_iff.1 hg
  obtain ⟨⟨a1, a2⟩, ⟨b1, b2⟩, ⟨c1, c2⟩, hmul⟩ := pw_facts h1 h2 h3 h4
  have Hmul := Lib.hid hmul; clear hmul
  have k1 := pw_of f
  go_enter Tryz.func162, Tryz.ntmps162
  go_wp2
  go_ret
  exact ⟨rfl, Ext.new _ _⟩

theorem fmWidth_any (e f : Int) (hg : goodB e f = true) (w : World) : Calls Tryz.prog 37 #[fmt e f] w fun rv w' => rv = .returned (.int .i64 (1 + e + f)) ∧ Ext w w' := by
  obtain ⟨h1, h2, h3, h4⟩ := good_iff.1 hg
  obtain ⟨⟨a1, a2⟩, ⟨b1, b2⟩, ⟨c1, c2⟩, hmul⟩ := pw_facts h1 h2 h3 h4
  have Hmul := Lib.hid hmul; clear hmul
  go_enter Tryz.func37, Tryz.ntmps37
  go_wp2
  go_ret
  exact ⟨rfl, Ext.new _ _⟩

theorem fmOnes_any (e f : Int) (hg : goodB e f = true) (w : World) : Calls Tryz.prog 38 #[fmt e f] w fun rv w' => rv = .returned (.int .i64 (pw e - 1)) ∧ Ext w w' := by
  obtain ⟨h1, h2, h3, h4⟩ := good_iff.1 hg
  obtain ⟨⟨a1, a2⟩, ⟨b1, b2⟩, ⟨c1, c2⟩, hmul⟩ := pw_facts h1 h2 h3 h4
  have Hmul := Lib.hid hmul; clear hmul
  have k1 := pw_of e
  go_enter Tryz.func38, Tryz.ntmps38
  go_wp2
  go_ret
  exact ⟨rfl, Ext.new _ _⟩

theorem fmBias_any (e f : Int) (hg : goodB e f = true) (w : World) : Calls Tryz.prog 120 #[fmt e f] w fun rv w' => rv = .returned (.int .i64 (pw (e - 1) - 1)) ∧ Ext w w' := by
  obtain ⟨h1, h2, h3, h4⟩ := good_iff.1 hg
  obtain ⟨⟨a1, a2⟩, ⟨b1, b2⟩, ⟨c1, c2⟩, hmul⟩ := pw_facts h1 h2 h3 h4
  have Hmul := Lib.hid hmul; clear hmul
  have k1 : (2 : Int) ^ (e.toNat - 1) = pw (e - 1) := by unfold pw; congr 1; omega
  have k2 : 1 ≤ pw (e - 1) := pw_pos _
  have k3 : pw (e - 1) ≤ 16 := pw_le 4 16 rfl (by omega)
  go_enter Tryz.func120, Tryz.ntmps120
  go_wp2
  go_ret
  exact ⟨rfl, Ext.new _ _⟩

theorem fmRest_any (e f p : Int) (hg : goodB e f = true) (hp : 0 ≤ p) (w : World) : Calls Tryz.prog 101 #[fmt e f, .int .i64 p] w fun rv w' => rv = .returned (.int .i64 (p % pw f)) ∧ Ext w w' := by
  obtain ⟨h1, h2, h3, h4⟩ := good_iff.1 hg
  obtain ⟨⟨a1, a2⟩, ⟨b1, b2⟩, ⟨c1, c2⟩, hmul⟩ := pw_facts h1 h2 h3 h4
  have Hmul := Lib.hid hmul; clear hmul
  have k1 := pw_of f
  go_enter Tryz.func101, Tryz.ntmps101
  go_wp2
  go_ret
  exact ⟨rfl, Ext.new _ _⟩

theorem fmSize_any (e f p : Int) (hg : goodB e f = true) (hp : 0 ≤ p) (w : World) : Calls Tryz.prog 99 #[fmt e f, .int .i64 p] w fun rv w' => rv = .returned (.int .i64 (p % pw (e + f))) ∧ Ext w w' := by
  obtain ⟨h1, h2, h3, h4⟩ := good_iff.1 hg
  obtain ⟨⟨a1, a2⟩, ⟨b1, b2⟩, ⟨c1, c2⟩, hmul⟩ := pw_facts h1 h2 h3 h4
  have Hmul := Lib.hid hmul; clear hmul
  have k1 : (2 : Int) ^ ((1 + e + f).toNat - 1) = pw (e + f) := by unfold pw; congr 1; omega
  have k2 : ¬ pw (e + f) = 0 := by omega
  have k3 : (pw (e + f) == 0) = false := by simpa using k2
  have k5 : p.tmod (pw (e + f)) = p % pw (e + f) := Int.tmod_eq_emod_of_nonneg hp
  go_enter Tryz.func99, Tryz.ntmps99
  go_wp2_with (go_at_call 37; refine (fmWidth_any e f hg _).mono ?_; rintro rv w1 ⟨rfl, hb⟩; have ns : w.heap.size < w1.heap.size := hb.ltK; have n0 : w1.cell? ⟨w.heap.size, 0, none⟩ = some (.int .i64 e) := hb.cellK; have n1 : w1.cell? ⟨w.heap.size, 1, none⟩ = some (.int .i64 f) := hb.cellK; (first | (have nx := hx.trK hb; clear hx) | have nx := hb); clear hb; try clear hs; try clear g0; try clear g1; have hx := nx; clear nx; have hs := ns; clear ns; have g0 := n0; clear n0; have g1 := n1; clear n1)
  go_ret
  exact ⟨rfl, Ext.auK⟩

theorem fmSign_any (e f p : Int) (hg : goodB e f = true) (hp : 0 ≤ p) (w : World) : Calls Tryz.prog 98 #[fmt e f, .int .i64 p] w fun rv w' => rv = .returned (.int .i64 (p / pw (e + f))) ∧ Ext w w' := by
  obtain ⟨h1, h2, h3, h4⟩ := good_iff.1 hg
  obtain ⟨⟨a1, a2⟩, ⟨b1, b2⟩, ⟨c1, c2⟩, hmul⟩ := pw_facts h1 h2 h3 h4
  have Hmul := Lib.hid hmul; clear hmul
  have k1 : (2 : Int) ^ ((1 + e + f).toNat - 1) = pw (e + f) := by unfold pw; congr 1; omega
  go_enter Tryz.func98, Tryz.ntmps98
  go_wp2_with (go_at_call 37; refine (fmWidth_any e f hg _).mono ?_; rintro rv w1 ⟨rfl, hb⟩; have ns : w.heap.size < w1.heap.size := hb.ltK; have n0 : w1.cell? ⟨w.heap.size, 0, none⟩ = some (.int .i64 e) := hb.cellK; have n1 : w1.cell? ⟨w.heap.size, 1, none⟩ = some (.int .i64 f) := hb.cellK; (first | (have nx := hx.trK hb; clear hx) | have nx := hb); clear hb; try clear hs; try clear g0; try clear g1; have hx := nx; clear nx; have hs := ns; clear ns; have g0 := n0; clear n0; have g1 := n1; clear n1)
  go_ret
  exact ⟨rfl, Ext.auK⟩

theorem fmField_any (e f p : Int) (hg : goodB e f = true) (hp : 0 ≤ p) (w : World) : Calls Tryz.prog 100 #[fmt e f, .int .i64 p] w fun rv w' => rv = .returned (.int .i64 (p % pw (e + f) / pw f)) ∧ Ext w w' := by
  obtain ⟨h1, h2, h3, h4⟩ := good_iff.1 hg
  obtain ⟨⟨a1, a2⟩, ⟨b1, b2⟩, ⟨c1, c2⟩, hmul⟩ := pw_facts h1 h2 h3 h4
  have Hmul := Lib.hid hmul; clear hmul
  have k1 := pw_of f
  have k2 : 0 ≤ p % pw (e + f) := Int.emod_nonneg _ (by omega)
  go_enter Tryz.func100, Tryz.ntmps100
  go_wp2_with fail
  go_region_held3 (fun w' => w'.cell? ⟨w.heap.size, 0, none⟩ = some (.int .i64 e) ∧ w'.cell? ⟨w.heap.size, 1, none⟩ = some (.int .i64 f) ∧ w.heap.size < w'.heap.size) ((refine ⟨?_, ?_, ?_⟩ <;> first | with_reducible assumption | ((rw [cell_setRow_far _ _ _ _ _ (by omega)]); with_reducible assumption) | ((rw [setRow_size]); with_reducible assumption) | ((repeat rw [World.cell?_setCell_far _ _ _ _ (by simp)]); with_reducible assumption) | (simp; done) | (simp [World.setCell]; first | done | omega) | (simp [go_sem, World.cell?_alloc_past, World.cell?_setCell_far, *]; done))) ((first | (go_at_call 99; refine (fmSize_any e f _ hg hp _).mono ?_; rintro rv w1 ⟨rfl, hb⟩; have ns : w.heap.size < w1.heap.size := hb.ltK; have n0 : w1.cell? ⟨w.heap.size, 0, none⟩ = some (.int .i64 e) := hb.cellK; have n1 : w1.cell? ⟨w.heap.size, 1, none⟩ = some (.int .i64 f) := hb.cellK; (first | (have nx := hx.trK hb; clear hx) | have nx := hb); clear hb; try clear hs; try clear g0; try clear g1; have hx := nx; clear nx; have hs := ns; clear ns; have g0 := n0; clear n0; have g1 := n1; clear n1)))
  go_wp2
  go_ret
  exact ⟨rfl, Ext.auK⟩

theorem fmGreatest_any (e f : Int) (hg : goodB e f = true) (w : World) : Calls Tryz.prog 118 #[fmt e f] w fun rv w' => rv = .returned (.int .i64 ((pw e - 1) * pw f - 1)) ∧ Ext w w' := by
  obtain ⟨h1, h2, h3, h4⟩ := good_iff.1 hg
  obtain ⟨⟨a1, a2⟩, ⟨b1, b2⟩, ⟨c1, c2⟩, hmul⟩ := pw_facts h1 h2 h3 h4
  have Hmul := Lib.hid hmul; clear hmul
  have k1 := pw_of f
  have k2 : 0 ≤ (pw e - 1) * pw f := Int.mul_nonneg (by omega) (by omega)
  have k3 : (pw e - 1) * pw f ≤ 31 * 1024 := Int.mul_le_mul (by omega) c2 (by omega) (by omega)
  have k4 : IntKind.i64.wrap ((pw e - 1) * pw f) = (pw e - 1) * pw f := IntWalk.i64_in _ (by omega)
  have k5 : IntKind.i64.wrap ((pw e - 1) * pw f - 1) = (pw e - 1) * pw f - 1 := IntWalk.i64_in _ (by omega)
  go_enter Tryz.func118, Tryz.ntmps118
  go_wp2_with fail
  go_region_held3 (fun w' => w'.cell? ⟨w.heap.size, 0, none⟩ = some (.int .i64 e) ∧ w'.cell? ⟨w.heap.size, 1, none⟩ = some (.int .i64 f) ∧ w.heap.size < w'.heap.size) ((refine ⟨?_, ?_, ?_⟩ <;> first | with_reducible assumption | ((rw [cell_setRow_far _ _ _ _ _ (by omega)]); with_reducible assumption) | ((rw [setRow_size]); with_reducible assumption) | ((repeat rw [World.cell?_setCell_far _ _ _ _ (by simp)]); with_reducible assumption) | (simp; done) | (simp [World.setCell]; first | done | omega) | (simp [go_sem, World.cell?_alloc_past, World.cell?_setCell_far, *]; done))) ((first | (go_at_call 38; refine (fmOnes_any e f hg _).mono ?_; rintro rv w1 ⟨rfl, hb⟩; have ns : w.heap.size < w1.heap.size := hb.ltK; have n0 : w1.cell? ⟨w.heap.size, 0, none⟩ = some (.int .i64 e) := hb.cellK; have n1 : w1.cell? ⟨w.heap.size, 1, none⟩ = some (.int .i64 f) := hb.cellK; (first | (have nx := hx.trK hb; clear hx) | have nx := hb); clear hb; try clear hs; try clear g0; try clear g1; have hx := nx; clear nx; have hs := ns; clear ns; have g0 := n0; clear n0; have g1 := n1; clear n1)))
  go_wp2
  go_ret
  exact ⟨rfl, Ext.auK⟩

theorem fmOf_any (e f s m : Int) (hg : goodB e f = true) (hs0 : 0 ≤ s) (hs1 : s ≤ 1) (hm0 : 0 ≤ m) (hm1 : m ≤ 65536) (w : World) : Calls Tryz.prog 16 #[fmt e f, .int .i64 s, .int .i64 m] w fun rv w' => rv = .returned (.int .i64 (s * pw (e + f) + m)) ∧ Ext w w' := by
  obtain ⟨h1, h2, h3, h4⟩ := good_iff.1 hg
  obtain ⟨⟨a1, a2⟩, ⟨b1, b2⟩, ⟨c1, c2⟩, hmul⟩ := pw_facts h1 h2 h3 h4
  have Hmul := Lib.hid hmul; clear hmul
  have k1 : (2 : Int) ^ ((1 + e + f).toNat - 1) = pw (e + f) := by unfold pw; congr 1; omega
  have k2 : 0 ≤ s * pw (e + f) := Int.mul_nonneg hs0 (by omega)
  have k3 : s * pw (e + f) ≤ 1 * 32768 := Int.mul_le_mul hs1 a2 (by omega) (by omega)
  go_enter Tryz.func16, Tryz.ntmps16
  go_wp2_with (go_at_call 37; refine (fmWidth_any e f hg _).mono ?_; rintro rv w1 ⟨rfl, hb⟩; have ns : w.heap.size < w1.heap.size := hb.ltK; have n0 : w1.cell? ⟨w.heap.size, 0, none⟩ = some (.int .i64 e) := hb.cellK; have n1 : w1.cell? ⟨w.heap.size, 1, none⟩ = some (.int .i64 f) := hb.cellK; (first | (have nx := hx.trK hb; clear hx) | have nx := hb); clear hb; try clear hs; try clear g0; try clear g1; have hx := nx; clear nx; have hs := ns; clear ns; have g0 := n0; clear n0; have g1 := n1; clear n1)
  go_ret
  exact ⟨rfl, Ext.auK⟩
end Go.Proofs.YtmddlbphanlfhaaGreatDoor

namespace Go.Proofs.YtmddlbphanlfhaaGreatDoor
open Go Go.RowKit
set_option linter.unusedSimpArgs false
set_option linter.unusedVariables false

theorem iBiasOf_yes (e f : Int) (hg : goodB e f = true) (w : World) : Calls Tryz.prog 182 #[fmt e f] w fun rv w' => rv = .returned (.tuple #[.int .i64 (pw (e - 1) - 1), .bool true]) ∧ Ext w w' := by
  obtain ⟨h1, h2, h3, h4⟩ := good_iff.1 hg
  obtain ⟨⟨a1, a2⟩, ⟨b1, b2⟩, ⟨c1, c2⟩, hmul⟩ := pw_facts h1 h2 h3 h4
  have Hmul := Lib.hid hmul; clear hmul
  have k1 : (2 : Int) ^ (e.toNat - 1) = pw (e - 1) := by unfold pw; congr 1; omega
  have k2 : 1 ≤ pw (e - 1) := pw_pos _
  have k3 : pw (e - 1) ≤ 16 := pw_le 4 16 rfl (by omega)
  go_enter Tryz.func182, Tryz.ntmps182
  go_wp2_with (first | (go_at_call 22; refine (isFormat_any e f _).mono ?_; rintro rv w1 ⟨rfl, hb⟩; have ns : w.heap.size < w1.heap.size := hb.ltK; have n0 : w1.cell? ⟨w.heap.size, 0, none⟩ = some (.int .i64 e) := hb.cellK; have n1 : w1.cell? ⟨w.heap.size, 1, none⟩ = some (.int .i64 f) := hb.cellK; (first | (have nx := hx.trK hb; clear hx) | have nx := hb); clear hb; try clear hs; try clear g0; try clear g1; have hx := nx; clear nx; have hs := ns; clear ns; have g0 := n0; clear n0; have g1 := n1; clear n1))
  go_ret2
  exact ⟨rfl, Ext.auK⟩
end Go.Proofs.YtmddlbphanlfhaaGreatDoor

namespace Go.Proofs.YtmddlbphanlfhaaGreatDoor
open Go Go.RowKit
set_option linter.unusedSimpArgs false
set_option linter.unusedVariables false

set_option maxHeartbeats 1600000 in
theorem fieldsOf_any (e f p : Int) (hg : goodB e f = true) (hp : 0 ≤ p) (hp2 : p ≤ 65535) (w : World) : Calls Tryz.prog 139 #[fmt e f, .int .i64 p] w fun rv w' => rv = .returned (.agg #[.int .i64 (p / pw (e + f)), .int .i64 (p % pw (e + f) / pw f), .int .i64 (p % pw f)]) ∧ Ext w w' := by
  obtain ⟨h1, h2, h3, h4⟩ := good_iff.1 hg
  obtain ⟨⟨a1, a2⟩, ⟨b1, b2⟩, ⟨c1, c2⟩, hmul⟩ := pw_facts h1 h2 h3 h4
  have Hmul := Lib.hid hmul; clear hmul
  have k1 := pw_of f
  have k2 : ¬ pw (e + f) = 0 := by omega
  have k3 : (pw (e + f) == 0) = false := by simpa using k2
  have k4 : IntKind.i64.wrap (p.tdiv (pw (e + f))) = p / pw (e + f) := IntWalk.i64_quo _ _ (by omega)
  have q0 := IntWalk.tdiv_le p (pw f) hp (by omega)
  have k5 : bits .and .i64 (p / pw f) (pw e - 1) = p % pw (e + f) / pw f := by rw [and_pw _ e q0.1 (by omega) (by omega), Hmul.out, field_eq p _ _ hp (by omega) (by omega)]
  have k6 : bits .and .i64 p (pw f - 1) = p % pw f := and_pw p f hp (by omega) (by omega)
  go_enter Tryz.func139, Tryz.ntmps139
  go_wp2_with fail
  go_region_held3 (fun w' => w'.cell? ⟨w.heap.size, 0, none⟩ = some (.int .i64 e) ∧ w'.cell? ⟨w.heap.size, 1, none⟩ = some (.int .i64 f) ∧ w.heap.size + 1 < w'.heap.size) ((refine ⟨?_, ?_, ?_⟩ <;> first | with_reducible assumption | ((rw [cell_setRow_far _ _ _ _ _ (by omega)]); with_reducible assumption) | ((rw [setRow_size]); with_reducible assumption) | ((repeat rw [World.cell?_setCell_far _ _ _ _ (by simp)]); with_reducible assumption) | (simp; done) | (simp [World.setCell]; first | done | omega) | (simp [go_sem, World.cell?_alloc_past, World.cell?_setCell_far, *]; done))) ((first | (go_at_call 93; refine (signBit_any e f hg _).mono ?_; rintro rv w1 ⟨rfl, hb⟩; have ns : w.heap.size + 1 < w1.heap.size := hb.ltK; have n0 : w1.cell? ⟨w.heap.size, 0, none⟩ = some (.int .i64 e) := hb.cellK; have n1 : w1.cell? ⟨w.heap.size, 1, none⟩ = some (.int .i64 f) := hb.cellK; have n2 : w1.cell? ⟨w.heap.size + 1, 0, none⟩ = some (.int .i64 0) := hb.cellK; have n3 : w1.cell? ⟨w.heap.size + 1, 1, none⟩ = some (.int .i64 0) := hb.cellK; have n4 : w1.cell? ⟨w.heap.size + 1, 2, none⟩ = some (.int .i64 0) := hb.cellK; have nz0 : w1.frozen? ⟨w.heap.size + 1, 0, none⟩ = false := hb.frzK; have nz1 : w1.frozen? ⟨w.heap.size + 1, 1, none⟩ = false := hb.frzK; have nz2 : w1.frozen? ⟨w.heap.size + 1, 2, none⟩ = false := hb.frzK; (first | (have nx := hx.trK hb; clear hx) | have nx := hb); clear hb; try clear hs; try clear g0; try clear g1; try clear g2; try clear g3; try clear g4; try clear z0; try clear z1; try clear z2; have hx := nx; clear nx; have hs := ns; clear ns; have g0 := n0; clear n0; have g1 := n1; clear n1; have g2 := n2; clear n2; have g3 := n3; clear n3; have g4 := n4; clear n4; have z0 := nz0; clear nz0; have z1 := nz1; clear nz1; have z2 := nz2; clear nz2) | (go_at_call 83; refine (exponentOnes_any e f hg _).mono ?_; rintro rv w1 ⟨rfl, hb⟩; have ns : w.heap.size + 1 < w1.heap.size := hb.ltK; have n0 : w1.cell? ⟨w.heap.size, 0, none⟩ = some (.int .i64 e) := hb.cellK; have n1 : w1.cell? ⟨w.heap.size, 1, none⟩ = some (.int .i64 f) := hb.cellK; have n2 : w1.cell? ⟨w.heap.size + 1, 0, none⟩ = some (.int .i64 0) := hb.cellK; have n3 : w1.cell? ⟨w.heap.size + 1, 1, none⟩ = some (.int .i64 0) := hb.cellK; have n4 : w1.cell? ⟨w.heap.size + 1, 2, none⟩ = some (.int .i64 0) := hb.cellK; have nz0 : w1.frozen? ⟨w.heap.size + 1, 0, none⟩ = false := hb.frzK; have nz1 : w1.frozen? ⟨w.heap.size + 1, 1, none⟩ = false := hb.frzK; have nz2 : w1.frozen? ⟨w.heap.size + 1, 2, none⟩ = false := hb.frzK; (first | (have nx := hx.trK hb; clear hx) | have nx := hb); clear hb; try clear hs; try clear g0; try clear g1; try clear g2; try clear g3; try clear g4; try clear z0; try clear z1; try clear z2; have hx := nx; clear nx; have hs := ns; clear ns; have g0 := n0; clear n0; have g1 := n1; clear n1; have g2 := n2; clear n2; have g3 := n3; clear n3; have g4 := n4; clear n4; have z0 := nz0; clear nz0; have z1 := nz1; clear nz1; have z2 := nz2; clear nz2) | (go_at_call 162; refine (fractionOnes_any e f hg _).mono ?_; rintro rv w1 ⟨rfl, hb⟩; have ns : w.heap.size + 1 < w1.heap.size := hb.ltK; have n0 : w1.cell? ⟨w.heap.size, 0, none⟩ = some (.int .i64 e) := hb.cellK; have n1 : w1.cell? ⟨w.heap.size, 1, none⟩ = some (.int .i64 f) := hb.cellK; have n2 : w1.cell? ⟨w.heap.size + 1, 0, none⟩ = some (.int .i64 0) := hb.cellK; have n3 : w1.cell? ⟨w.heap.size + 1, 1, none⟩ = some (.int .i64 0) := hb.cellK; have n4 : w1.cell? ⟨w.heap.size + 1, 2, none⟩ = some (.int .i64 0) := hb.cellK; have nz0 : w1.frozen? ⟨w.heap.size + 1, 0, none⟩ = false := hb.frzK; have nz1 : w1.frozen? ⟨w.heap.size + 1, 1, none⟩ = false := hb.frzK; have nz2 : w1.frozen? ⟨w.heap.size + 1, 2, none⟩ = false := hb.frzK; (first | (have nx := hx.trK hb; clear hx) | have nx := hb); clear hb; try clear hs; try clear g0; try clear g1; try clear g2; try clear g3; try clear g4; try clear z0; try clear z1; try clear z2; have hx := nx; clear nx; have hs := ns; clear ns; have g0 := n0; clear n0; have g1 := n1; clear n1; have g2 := n2; clear n2; have g3 := n3; clear n3; have g4 := n4; clear n4; have z0 := nz0; clear nz0; have z1 := nz1; clear nz1; have z2 := nz2; clear nz2)))
  go_wp2
  exact bodyPost_ret (v := .agg #[.int .i64 (p / pw (e + f)), .int .i64 (p % pw (e + f) / pw f), .int .i64 (p % pw f)]) (by simp [results, Tryz.results139, go_sem, *]) rfl ⟨rfl, Ext.auK⟩
end Go.Proofs.YtmddlbphanlfhaaGreatDoor

namespace Go.Proofs.YtmddlbphanlfhaaGreatDoor
open Go Go.RowKit
set_option linter.unusedSimpArgs false
set_option linter.unusedVariables false

theorem fields_facts {e f s x r : Int} (h1 : 2 ≤ e) (h2 : e ≤ 5) (h3 : 1 ≤ f) (h4 : f ≤ 10) (hs0 : 0 ≤ s) (hs1 : s ≤ 1) (hx0 : 0 ≤ x) (hx1 : x < pw e) (hr0 : 0 ≤ r) (hr1 : r < pw f) :
    (0 ≤ x * pw f ∧ x * pw f + r < pw (e + f)) ∧ (0 ≤ s * pw e ∧ s * pw e ≤ 32) ∧ (0 ≤ s * pw (e + f) ∧ s * pw (e + f) ≤ 32768) ∧ (s * pw e + x) * pw f = s * pw (e + f) + x * pw f ∧ 0 ≤ (s * pw e + x) * pw f ∧ (s * pw e + x) * pw f + r ≤ 65535 := by
  obtain ⟨⟨a1, a2⟩, ⟨b1, b2⟩, ⟨c1, c2⟩, hmul⟩ := pw_facts h1 h2 h3 h4
  have k1 : 0 ≤ x * pw f := Int.mul_nonneg hx0 (by omega)
  have k2 : (x + 1) * pw f ≤ pw e * pw f := Int.mul_le_mul_of_nonneg_right (by omega) (by omega)
  have k3 : (x + 1) * pw f = x * pw f + pw f := by rw [Int.add_mul, Int.one_mul]
  have k4 : (s * pw e + x) * pw f = s * pw (e + f) + x * pw f := by rw [Int.add_mul, Int.mul_assoc, ← hmul]
  have hs : s = 0 ∨ s = 1 := by omega
  rcases hs with rfl | rfl <;> simp only [Int.zero_mul, Int.one_mul] at * <;> refine ⟨⟨?_, ?_⟩, ⟨?_, ?_⟩, ⟨?_, ?_⟩, ?_, ?_, ?_⟩ <;> omega

set_option maxHeartbeats 800000 in
theorem patternOf_any (e f s x r : Int) (hg : goodB e f = true) (hs0 : 0 ≤ s) (hs1 : s ≤ 1) (hx0 : 0 ≤ x) (hx1 : x < pw e) (hr0 : 0 ≤ r) (hr1 : r < pw f) (w : World) :
    Calls Tryz.prog 82 #[fmt e f, .agg #[.int .i64 s, .int .i64 x, .int .i64 r]] w fun rv w' => rv = .returned (.int .i64 (s * pw (e + f) + (x * pw f + r))) ∧ Ext w w' := by
  obtain ⟨h1, h2, h3, h4⟩ := good_iff.1 hg
  obtain ⟨⟨a1, a2⟩, ⟨b1, b2⟩, ⟨c1, c2⟩, hmul⟩ := pw_facts h1 h2 h3 h4
  have Hmul := Lib.hid hmul; clear hmul
  obtain ⟨⟨m1, m2⟩, ⟨m3, m4⟩, ⟨m5, m6⟩, hm, m7, m8⟩ := fields_facts h1 h2 h3 h4 hs0 hs1 hx0 hx1 hr0 hr1
  have Hm := Lib.hid hm; clear hm
  have k1 := pw_of f
  have k2 := pw_of e
  have k3 : bits .or .i64 (s * pw e) x = s * pw e + x := or_pw s x e hs0 hx0 hx1 (by omega)
  have k4 : bits .or .i64 ((s * pw e + x) * pw f) r = (s * pw e + x) * pw f + r := or_pw (s * pw e + x) r f (by omega) hr0 hr1 (by omega)
  go_enter Tryz.func82, Tryz.ntmps82
  go_wp2
  go_region_held3 (fun w' => w'.cell? ⟨w.heap.size, 0, none⟩ = some (.int .i64 e) ∧ w'.cell? ⟨w.heap.size, 1, none⟩ = some (.int .i64 f) ∧ w'.cell? ⟨w.heap.size + 1, 0, none⟩ = some (.int .i64 s) ∧ w'.cell? ⟨w.heap.size + 1, 1, none⟩ = some (.int .i64 x) ∧ w'.cell? ⟨w.heap.size + 1, 2, none⟩ = some (.int .i64 r) ∧ w.heap.size + 1 < w'.heap.size) ((refine ⟨?_, ?_, ?_, ?_, ?_, ?_⟩ <;> first | with_reducible assumption | ((rw [cell_setRow_far _ _ _ _ _ (by omega)]); with_reducible assumption) | ((rw [setRow_size]); with_reducible assumption) | ((repeat rw [World.cell?_setCell_far _ _ _ _ (by simp)]); with_reducible assumption) | (simp; done) | (simp [World.setCell]; first | done | omega) | (simp [go_sem, World.cell?_alloc_past, World.cell?_setCell_far, *]; done))) (fail)
  go_wp2
  go_ret
  exact ⟨ret_int (by rw [IntWalk.i64_in (s * pw e) (by omega), k3, IntWalk.i64_in ((s * pw e + x) * pw f) (by omega), k4, Hm.out]; omega), Ext.auK⟩

theorem ret_ib {a b : Int} {c : Bool} (h : a = b) : Ending.returned (.tuple #[.int .i64 a, .bool c]) = .returned (.tuple #[.int .i64 b, .bool c]) := by rw [h]

theorem iGreatestOf_yes (e f : Int) (hg : goodB e f = true) (w : World) : Calls Tryz.prog 187 #[fmt e f] w fun rv w' => rv = .returned (.tuple #[.int .i64 ((pw e - 1) * pw f - 1), .bool true]) ∧ Ext w w' := by
  obtain ⟨h1, h2, h3, h4⟩ := good_iff.1 hg
  obtain ⟨⟨a1, a2⟩, ⟨b1, b2⟩, ⟨c1, c2⟩, hmul⟩ := pw_facts h1 h2 h3 h4
  have Hmul := Lib.hid hmul; clear hmul
  have k1 : IntKind.i64.wrap (pw e - 1 - 1) = pw e - 1 - 1 := IntWalk.i64_in _ (by omega)
  go_enter Tryz.func187, Tryz.ntmps187
  go_wp2_with (go_at_call 22; refine (isFormat_any e f _).mono ?_; rintro rv w1 ⟨rfl, hb⟩; have ns : w.heap.size < w1.heap.size := hb.ltK; have n0 : w1.cell? ⟨w.heap.size, 0, none⟩ = some (.int .i64 e) := hb.cellK; have n1 : w1.cell? ⟨w.heap.size, 1, none⟩ = some (.int .i64 f) := hb.cellK; (first | (have nx := hx.trK hb; clear hx) | have nx := hb); clear hb; try clear hs; try clear g0; try clear g1; have hx := nx; clear nx; have hs := ns; clear ns; have g0 := n0; clear n0; have g1 := n1; clear n1)
  go_region_held3 (fun w' => w'.cell? ⟨w.heap.size, 0, none⟩ = some (.int .i64 e) ∧ w'.cell? ⟨w.heap.size, 1, none⟩ = some (.int .i64 f) ∧ w.heap.size < w'.heap.size) ((refine ⟨?_, ?_, ?_⟩ <;> first | with_reducible assumption | ((rw [cell_setRow_far _ _ _ _ _ (by omega)]); with_reducible assumption) | ((rw [setRow_size]); with_reducible assumption) | ((repeat rw [World.cell?_setCell_far _ _ _ _ (by simp)]); with_reducible assumption) | (simp; done) | (simp [World.setCell]; first | done | omega) | (simp [go_sem, World.cell?_alloc_past, World.cell?_setCell_far, *]; done))) ((first | (go_at_call 82; refine (patternOf_any e f _ _ _ hg (by omega) (by omega) (by omega) (by omega) (by omega) (by omega) _).mono ?_; rintro rv w1 ⟨rfl, hb⟩; have ns : w.heap.size < w1.heap.size := hb.ltK; have n0 : w1.cell? ⟨w.heap.size, 0, none⟩ = some (.int .i64 e) := hb.cellK; have n1 : w1.cell? ⟨w.heap.size, 1, none⟩ = some (.int .i64 f) := hb.cellK; (first | (have nx := hx.trK hb; clear hx) | have nx := hb); clear hb; try clear hs; try clear g0; try clear g1; have hx := nx; clear nx; have hs := ns; clear ns; have g0 := n0; clear n0; have g1 := n1; clear n1) | (go_at_call 83; refine (exponentOnes_any e f hg _).mono ?_; rintro rv w1 ⟨rfl, hb⟩; have ns : w.heap.size < w1.heap.size := hb.ltK; have n0 : w1.cell? ⟨w.heap.size, 0, none⟩ = some (.int .i64 e) := hb.cellK; have n1 : w1.cell? ⟨w.heap.size, 1, none⟩ = some (.int .i64 f) := hb.cellK; (first | (have nx := hx.trK hb; clear hx) | have nx := hb); clear hb; try clear hs; try clear g0; try clear g1; have hx := nx; clear nx; have hs := ns; clear ns; have g0 := n0; clear n0; have g1 := n1; clear n1) | (go_at_call 162; refine (fractionOnes_any e f hg _).mono ?_; rintro rv w1 ⟨rfl, hb⟩; have ns : w.heap.size < w1.heap.size := hb.ltK; have n0 : w1.cell? ⟨w.heap.size, 0, none⟩ = some (.int .i64 e) := hb.cellK; have n1 : w1.cell? ⟨w.heap.size, 1, none⟩ = some (.int .i64 f) := hb.cellK; (first | (have nx := hx.trK hb; clear hx) | have nx := hb); clear hb; try clear hs; try clear g0; try clear g1; have hx := nx; clear nx; have hs := ns; clear ns; have g0 := n0; clear n0; have g1 := n1; clear n1)))
  go_wp2
  go_ret2
  exact ⟨ret_ib (by rw [Int.sub_mul _ 1]; omega), Ext.auK⟩

theorem isPattern_any (e f p : Int) (w : World) : Calls Tryz.prog 92 #[fmt e f, .int .i64 p] w fun rv w' => rv = .returned (.bool (patB e f p)) ∧ Ext w w' := by
  cases hg : goodB e f
  · go_enter Tryz.func92, Tryz.ntmps92
    go_wp2_with (go_at_call 22; refine (isFormat_any e f _).mono ?_; rintro rv w1 ⟨rfl, hb⟩; have ns : w.heap.size < w1.heap.size := hb.ltK; have n0 : w1.cell? ⟨w.heap.size, 0, none⟩ = some (.int .i64 e) := hb.cellK; have n1 : w1.cell? ⟨w.heap.size, 1, none⟩ = some (.int .i64 f) := hb.cellK; (first | (have nx := hx.trK hb; clear hx) | have nx := hb); clear hb; try clear hs; try clear g0; try clear g1; have hx := nx; clear nx; have hs := ns; clear ns; have g0 := n0; clear n0; have g1 := n1; clear n1)
    go_ret
    exact ⟨ret_bool (by simp [patB, hg]), Ext.auK⟩
  · obtain ⟨h1, h2, h3, h4⟩ := good_iff.1 hg
    obtain ⟨⟨a1, a2⟩, ⟨b1, b2⟩, ⟨c1, c2⟩, hmul⟩ := pw_facts h1 h2 h3 h4
    clear hmul
    by_cases hp : 0 ≤ p
    · go_enter Tryz.func92, Tryz.ntmps92
      go_wp2_with (first | (go_at_call 22; refine (isFormat_any e f _).mono ?_; rintro rv w1 ⟨rfl, hb⟩; have ns : w.heap.size < w1.heap.size := hb.ltK; have n0 : w1.cell? ⟨w.heap.size, 0, none⟩ = some (.int .i64 e) := hb.cellK; have n1 : w1.cell? ⟨w.heap.size, 1, none⟩ = some (.int .i64 f) := hb.cellK; (first | (have nx := hx.trK hb; clear hx) | have nx := hb); clear hb; try clear hs; try clear g0; try clear g1; have hx := nx; clear nx; have hs := ns; clear ns; have g0 := n0; clear n0; have g1 := n1; clear n1) | (go_at_call 93; refine (signBit_any e f hg _).mono ?_; rintro rv w1 ⟨rfl, hb⟩; have ns : w.heap.size < w1.heap.size := hb.ltK; have n0 : w1.cell? ⟨w.heap.size, 0, none⟩ = some (.int .i64 e) := hb.cellK; have n1 : w1.cell? ⟨w.heap.size, 1, none⟩ = some (.int .i64 f) := hb.cellK; (first | (have nx := hx.trK hb; clear hx) | have nx := hb); clear hb; try clear hs; try clear g0; try clear g1; have hx := nx; clear nx; have hs := ns; clear ns; have g0 := n0; clear n0; have g1 := n1; clear n1))
      go_ret
      exact ⟨ret_bool (by simp [patB, hg, hp]), Ext.auK⟩
    · go_enter Tryz.func92, Tryz.ntmps92
      go_wp2_with (first | (go_at_call 22; refine (isFormat_any e f _).mono ?_; rintro rv w1 ⟨rfl, hb⟩; have ns : w.heap.size < w1.heap.size := hb.ltK; have n0 : w1.cell? ⟨w.heap.size, 0, none⟩ = some (.int .i64 e) := hb.cellK; have n1 : w1.cell? ⟨w.heap.size, 1, none⟩ = some (.int .i64 f) := hb.cellK; (first | (have nx := hx.trK hb; clear hx) | have nx := hb); clear hb; try clear hs; try clear g0; try clear g1; have hx := nx; clear nx; have hs := ns; clear ns; have g0 := n0; clear n0; have g1 := n1; clear n1) | (go_at_call 93; refine (signBit_any e f hg _).mono ?_; rintro rv w1 ⟨rfl, hb⟩; have ns : w.heap.size < w1.heap.size := hb.ltK; have n0 : w1.cell? ⟨w.heap.size, 0, none⟩ = some (.int .i64 e) := hb.cellK; have n1 : w1.cell? ⟨w.heap.size, 1, none⟩ = some (.int .i64 f) := hb.cellK; (first | (have nx := hx.trK hb; clear hx) | have nx := hb); clear hb; try clear hs; try clear g0; try clear g1; have hx := nx; clear nx; have hs := ns; clear ns; have g0 := n0; clear n0; have g1 := n1; clear n1))
      go_ret
      exact ⟨ret_bool (by simp [patB, hg]; omega), Ext.auK⟩
end Go.Proofs.YtmddlbphanlfhaaGreatDoor

namespace Go.Proofs.YtmddlbphanlfhaaGreatDoor
open Go Go.RowKit
set_option linter.unusedSimpArgs false
set_option linter.unusedVariables false

theorem field_bd (e f p : Int) (hg : patB e f p = true) : (0 ≤ p / pw (e + f) ∧ p / pw (e + f) ≤ 1) ∧ (0 ≤ p % pw (e + f) ∧ p % pw (e + f) < pw (e + f)) ∧ (0 ≤ p % pw (e + f) / pw f ∧ p % pw (e + f) / pw f < pw e) ∧ (0 ≤ p % pw f ∧ p % pw f < pw f) ∧ p = p / pw (e + f) * pw (e + f) + p % pw (e + f) := by
  obtain ⟨hg0, hp0, hp1⟩ := pat_iff.1 hg
  obtain ⟨h1, h2, h3, h4⟩ := good_iff.1 hg0
  obtain ⟨⟨a1, a2⟩, ⟨b1, b2⟩, ⟨c1, c2⟩, hmul⟩ := pw_facts h1 h2 h3 h4
  have Hmul := Lib.hid hmul; clear hmul
  have q1 := Int.emod_nonneg p (show pw (e + f) ≠ 0 by omega)
  have q2 := Int.emod_lt_of_pos p (show 0 < pw (e + f) by omega)
  refine ⟨⟨Int.ediv_nonneg hp0 (by omega), ?_⟩, ⟨q1, q2⟩, ⟨Int.ediv_nonneg q1 (by omega), ?_⟩, ⟨Int.emod_nonneg _ (by omega), Int.emod_lt_of_pos _ (by omega)⟩, ?_⟩
  · have := Int.ediv_lt_of_lt_mul (show 0 < pw (e + f) by omega) (show p < 2 * pw (e + f) from hp1); omega
  · exact Int.ediv_lt_of_lt_mul (by omega) (by rw [← Hmul.out]; exact q2)
  · have := Int.mul_ediv_add_emod p (pw (e + f)); rw [Int.mul_comm]; omega

theorem iNegateOf_yes (e f p : Int) (hg : patB e f p = true) (w : World) : Calls Tryz.prog 50 #[fmt e f, .int .i64 p] w fun rv w' => rv = .returned (.tuple #[.int .i64 ((1 - p / pw (e + f)) * pw (e + f) + p % pw (e + f)), .bool true]) ∧ Ext w w' := by
  obtain ⟨hg0, hp0, hp1⟩ := pat_iff.1 hg
  obtain ⟨h1, h2, h3, h4⟩ := good_iff.1 hg0
  obtain ⟨⟨a1, a2⟩, ⟨b1, b2⟩, ⟨c1, c2⟩, hmul⟩ := pw_facts h1 h2 h3 h4
  have Hmul := Lib.hid hmul; clear hmul
  have k1 : bits .xor .i64 p (pw (e + f)) = (1 - p / pw (e + f)) * pw (e + f) + p % pw (e + f) := xor_pw p (e + f) hp0 hp1 (by omega)
  go_enter Tryz.func50, Tryz.ntmps50
  go_wp2_with (first | (go_at_call 92; refine (isPattern_any e f _ _).mono ?_; rintro rv w1 ⟨rfl, hb⟩; have ns : w.heap.size < w1.heap.size := hb.ltK; have n0 : w1.cell? ⟨w.heap.size, 0, none⟩ = some (.int .i64 e) := hb.cellK; have n1 : w1.cell? ⟨w.heap.size, 1, none⟩ = some (.int .i64 f) := hb.cellK; (first | (have nx := hx.trK hb; clear hx) | have nx := hb); clear hb; try clear hs; try clear g0; try clear g1; have hx := nx; clear nx; have hs := ns; clear ns; have g0 := n0; clear n0; have g1 := n1; clear n1) | (go_at_call 93; refine (signBit_any e f hg0 _).mono ?_; rintro rv w1 ⟨rfl, hb⟩; have ns : w.heap.size < w1.heap.size := hb.ltK; have n0 : w1.cell? ⟨w.heap.size, 0, none⟩ = some (.int .i64 e) := hb.cellK; have n1 : w1.cell? ⟨w.heap.size, 1, none⟩ = some (.int .i64 f) := hb.cellK; (first | (have nx := hx.trK hb; clear hx) | have nx := hb); clear hb; try clear hs; try clear g0; try clear g1; have hx := nx; clear nx; have hs := ns; clear ns; have g0 := n0; clear n0; have g1 := n1; clear n1))
  go_ret2
  exact ⟨rfl, Ext.auK⟩
end Go.Proofs.YtmddlbphanlfhaaGreatDoor

namespace Go.Proofs.YtmddlbphanlfhaaGreatDoor
open Go Go.RowKit
set_option linter.unusedSimpArgs false
set_option linter.unusedVariables false

abbrev shp (s x r o : Int) : Value := .agg #[.int .i64 s, .int .i64 x, .int .i64 r, .int .i64 o]

theorem buildShape (a b c d : Int) (w : World) : (Instr.build 91 #[(0, .agg #[.int .i64 a, .int .i64 b, .int .i64 c]), (1, .int .i64 d)]).run Tryz.prog w = .ok (.agg #[.int .i64 a, .int .i64 b, .int .i64 c, .int .i64 d]) w := run_build w _ _ _ (by kernel_rfl)

theorem shFinite_any (s x r o : Int) (w : World) : Calls Tryz.prog 67 #[shp s x r o] w fun rv w' => rv = .returned (.bool (decide (x < o))) ∧ Ext w w' := by
  go_enter Tryz.func67, Tryz.ntmps67
  go_wp2
  go_ret
  exact ⟨rfl, Ext.auK⟩
end Go.Proofs.YtmddlbphanlfhaaGreatDoor

namespace Go.Proofs.YtmddlbphanlfhaaGreatDoor
open Go Go.RowKit
set_option linter.unusedSimpArgs false
set_option linter.unusedVariables false

set_option maxHeartbeats 16000000 in
theorem shapeOf_any (e f p : Int) (hg : goodB e f = true) (hp : 0 ≤ p) (hp2 : p ≤ 65535) (w : World) : Calls Tryz.prog 112 #[fmt e f, .int .i64 p] w fun rv w' => rv = .returned (shp (p / pw (e + f)) (p % pw (e + f) / pw f) (p % pw f) (pw e - 1)) ∧ Ext w w' := by
  have hi : (Tryz.prog.info? 91).map (·.size) = some 4 := by kernel_rfl
  have bl := buildShape (p / pw (e + f)) (p % pw (e + f) / pw f) (p % pw f) (pw e - 1)
  go_enter Tryz.func112, Tryz.ntmps112
  go_wp2_with fail
  go_region_held3 (fun w' => w'.cell? ⟨w.heap.size, 0, none⟩ = some (.int .i64 e) ∧ w'.cell? ⟨w.heap.size, 1, none⟩ = some (.int .i64 f) ∧ w.heap.size + 1 < w'.heap.size) ((refine ⟨?_, ?_, ?_⟩ <;> first | with_reducible assumption | ((rw [cell_setRow_far _ _ _ _ _ (by omega)]); with_reducible assumption) | ((rw [setRow_size]); with_reducible assumption) | ((repeat rw [World.cell?_setCell_far _ _ _ _ (by simp)]); with_reducible assumption) | (simp; done) | (simp [World.setCell]; first | done | omega) | (simp [go_sem, World.cell?_alloc_past, World.cell?_setCell_far, *]; done))) ((first | (go_at_call 139; refine (fieldsOf_any e f _ hg hp hp2 _).mono ?_; rintro rv w1 ⟨rfl, hb⟩; have ns : w.heap.size + 1 < w1.heap.size := hb.ltK; have n0 : w1.cell? ⟨w.heap.size, 0, none⟩ = some (.int .i64 e) := hb.cellK; have n1 : w1.cell? ⟨w.heap.size, 1, none⟩ = some (.int .i64 f) := hb.cellK; have n2 : w1.cell? ⟨w.heap.size + 1, 0, none⟩ = some (.int .i64 0) := hb.cellK; have n3 : w1.cell? ⟨w.heap.size + 1, 1, none⟩ = some (.int .i64 0) := hb.cellK; have n4 : w1.cell? ⟨w.heap.size + 1, 2, none⟩ = some (.int .i64 0) := hb.cellK; have n5 : w1.cell? ⟨w.heap.size + 1, 3, none⟩ = some (.int .i64 0) := hb.cellK; have nz0 : w1.frozen? ⟨w.heap.size + 1, 0, none⟩ = false := hb.frzK; have nz1 : w1.frozen? ⟨w.heap.size + 1, 1, none⟩ = false := hb.frzK; have nz2 : w1.frozen? ⟨w.heap.size + 1, 2, none⟩ = false := hb.frzK; have nz3 : w1.frozen? ⟨w.heap.size + 1, 3, none⟩ = false := hb.frzK; (first | (have nx := hx.trK hb; clear hx) | have nx := hb); clear hb; try clear hs; try clear g0; try clear g1; try clear g2; try clear g3; try clear g4; try clear g5; try clear z0; try clear z1; try clear z2; try clear z3; have hx := nx; clear nx; have hs := ns; clear ns; have g0 := n0; clear n0; have g1 := n1; clear n1; have g2 := n2; clear n2; have g3 := n3; clear n3; have g4 := n4; clear n4; have g5 := n5; clear n5; have z0 := nz0; clear nz0; have z1 := nz1; clear nz1; have z2 := nz2; clear nz2; have z3 := nz3; clear nz3) | (go_at_call 83; refine (exponentOnes_any e f hg _).mono ?_; rintro rv w1 ⟨rfl, hb⟩; have ns : w.heap.size + 1 < w1.heap.size := hb.ltK; have n0 : w1.cell? ⟨w.heap.size, 0, none⟩ = some (.int .i64 e) := hb.cellK; have n1 : w1.cell? ⟨w.heap.size, 1, none⟩ = some (.int .i64 f) := hb.cellK; have n2 : w1.cell? ⟨w.heap.size + 1, 0, none⟩ = some (.int .i64 0) := hb.cellK; have n3 : w1.cell? ⟨w.heap.size + 1, 1, none⟩ = some (.int .i64 0) := hb.cellK; have n4 : w1.cell? ⟨w.heap.size + 1, 2, none⟩ = some (.int .i64 0) := hb.cellK; have n5 : w1.cell? ⟨w.heap.size + 1, 3, none⟩ = some (.int .i64 0) := hb.cellK; have nz0 : w1.frozen? ⟨w.heap.size + 1, 0, none⟩ = false := hb.frzK; have nz1 : w1.frozen? ⟨w.heap.size + 1, 1, none⟩ = false := hb.frzK; have nz2 : w1.frozen? ⟨w.heap.size + 1, 2, none⟩ = false := hb.frzK; have nz3 : w1.frozen? ⟨w.heap.size + 1, 3, none⟩ = false := hb.frzK; (first | (have nx := hx.trK hb; clear hx) | have nx := hb); clear hb; try clear hs; try clear g0; try clear g1; try clear g2; try clear g3; try clear g4; try clear g5; try clear z0; try clear z1; try clear z2; try clear z3; have hx := nx; clear nx; have hs := ns; clear ns; have g0 := n0; clear n0; have g1 := n1; clear n1; have g2 := n2; clear n2; have g3 := n3; clear n3; have g4 := n4; clear n4; have g5 := n5; clear n5; have z0 := nz0; clear nz0; have z1 := nz1; clear nz1; have z2 := nz2; clear nz2; have z3 := nz3; clear nz3)))
  go_wp2
  refine bodyPost_ret (v := shp (p / pw (e + f)) (p % pw (e + f) / pw f) (p % pw f) (pw e - 1)) (by simp [results, Tryz.results112, go_sem, *]) rfl ⟨rfl, Ext.auK⟩
end Go.Proofs.YtmddlbphanlfhaaGreatDoor

namespace Go.Proofs.YtmddlbphanlfhaaGreatDoor
open Go Go.RowKit
set_option linter.unusedSimpArgs false
set_option linter.unusedVariables false

theorem hasFinite_any (e f p : Int) (w : World) : Calls Tryz.prog 66 #[fmt e f, .int .i64 p, .func (.func 67) #[] #[]] w fun rv w' => rv = .returned (.bool (finB e f p)) ∧ Ext w w' := by
  cases hg : patB e f p
  · go_enter Tryz.func66, Tryz.ntmps66
    go_wp2_with (go_at_call 92; refine (isPattern_any e f _ _).mono ?_; rintro rv w1 ⟨rfl, hb⟩; have ns : w.heap.size < w1.heap.size := hb.ltK; have n0 : w1.cell? ⟨w.heap.size, 0, none⟩ = some (.int .i64 e) := hb.cellK; have n1 : w1.cell? ⟨w.heap.size, 1, none⟩ = some (.int .i64 f) := hb.cellK; (first | (have nx := hx.trK hb; clear hx) | have nx := hb); clear hb; try clear hs; try clear g0; try clear g1; have hx := nx; clear nx; have hs := ns; clear ns; have g0 := n0; clear n0; have g1 := n1; clear n1)
    go_ret
    exact ⟨ret_bool (by simp [finB, hg]), Ext.auK⟩
  · obtain ⟨hg0, hp0, hp1⟩ := pat_iff.1 hg
    obtain ⟨h1, h2, h3, h4⟩ := good_iff.1 hg0
    obtain ⟨⟨a1, a2⟩, ⟨b1, b2⟩, ⟨c1, c2⟩, hmul⟩ := pw_facts h1 h2 h3 h4
    clear hmul
    go_enter Tryz.func66, Tryz.ntmps66
    go_wp2_with (first | (go_at_call 92; refine (isPattern_any e f _ _).mono ?_; rintro rv w1 ⟨rfl, hb⟩; have ns : w.heap.size < w1.heap.size := hb.ltK; have n0 : w1.cell? ⟨w.heap.size, 0, none⟩ = some (.int .i64 e) := hb.cellK; have n1 : w1.cell? ⟨w.heap.size, 1, none⟩ = some (.int .i64 f) := hb.cellK; (first | (have nx := hx.trK hb; clear hx) | have nx := hb); clear hb; try clear hs; try clear g0; try clear g1; have hx := nx; clear nx; have hs := ns; clear ns; have g0 := n0; clear n0; have g1 := n1; clear n1) | (go_at_call 112; refine (shapeOf_any e f _ hg0 (by omega) (by omega) _).mono ?_; rintro rv w1 ⟨rfl, hb⟩; have ns : w.heap.size < w1.heap.size := hb.ltK; have n0 : w1.cell? ⟨w.heap.size, 0, none⟩ = some (.int .i64 e) := hb.cellK; have n1 : w1.cell? ⟨w.heap.size, 1, none⟩ = some (.int .i64 f) := hb.cellK; (first | (have nx := hx.trK hb; clear hx) | have nx := hb); clear hb; try clear hs; try clear g0; try clear g1; have hx := nx; clear nx; have hs := ns; clear ns; have g0 := n0; clear n0; have g1 := n1; clear n1) | (go_at_call 67; refine (shFinite_any _ _ _ _ _).mono ?_; rintro rv w1 ⟨rfl, hb⟩; have ns : w.heap.size < w1.heap.size := hb.ltK; have n0 : w1.cell? ⟨w.heap.size, 0, none⟩ = some (.int .i64 e) := hb.cellK; have n1 : w1.cell? ⟨w.heap.size, 1, none⟩ = some (.int .i64 f) := hb.cellK; (first | (have nx := hx.trK hb; clear hx) | have nx := hb); clear hb; try clear hs; try clear g0; try clear g1; have hx := nx; clear nx; have hs := ns; clear ns; have g0 := n0; clear n0; have g1 := n1; clear n1))
    go_ret
    exact ⟨ret_bool (by simp [finB, hg]), Ext.auK⟩
end Go.Proofs.YtmddlbphanlfhaaGreatDoor

namespace Go.Proofs.YtmddlbphanlfhaaGreatDoor
open Go Go.RowKit
set_option linter.unusedSimpArgs false
set_option linter.unusedVariables false

/-- The size of a finite pattern in units. -/
def magV (e f p : Int) : Int := if 0 < p % pw (e + f) / pw f then (p % pw f + pw f) * pw (p % pw (e + f) / pw f - 1) else p % pw f

/-- The value of a finite pattern in units. -/
def unitsV (e f p : Int) : Int := if (p / pw (e + f) == 1) = true then -magV e f p else magV e f p

set_option maxHeartbeats 800000 in
theorem fmUnits_any (e f p : Int) (hg : patB e f p = true) (w : World) : Calls Tryz.prog 76 #[fmt e f, .int .i64 p] w fun rv w' => rv = .returned (.int .i64 (unitsV e f p)) ∧ Ext w w' := by
  obtain ⟨hg0, hp0, hp1⟩ := pat_iff.1 hg
  obtain ⟨h1, h2, h3, h4⟩ := good_iff.1 hg0
  obtain ⟨⟨a1, a2⟩, ⟨b1, b2⟩, ⟨c1, c2⟩, hmul⟩ := pw_facts h1 h2 h3 h4
  have Hmul := Lib.hid hmul; clear hmul
  obtain ⟨⟨s0, s1⟩, ⟨z0, z1⟩, ⟨x0, x1⟩, ⟨r0, r1⟩, hsum⟩ := field_bd e f p hg
  have Hsum := Lib.hid hsum; clear hsum
  by_cases c1 : 0 < p % pw (e + f) / pw f
  · have q1 : 1 ≤ pw (p % pw (e + f) / pw f - 1) := pw_pos _
    have q2 : pw (p % pw (e + f) / pw f - 1) ≤ 2147483648 := pw_le 31 _ rfl (by omega)
    have q3 : 0 ≤ (p % pw f + pw f) * pw (p % pw (e + f) / pw f - 1) := Int.mul_nonneg (by omega) (by omega)
    have q4 : (p % pw f + pw f) * pw (p % pw (e + f) / pw f - 1) ≤ 2048 * 2147483648 := Int.mul_le_mul (by omega) q2 (by omega) (by omega)
    have k1 := pw_of f
    have k2 : (2 : Int) ^ ((p % pw (e + f) / pw f).toNat - 1) = pw (p % pw (e + f) / pw f - 1) := by unfold pw; congr 1; omega
    cases c2 : (p / pw (e + f) == 1)
    · go_enter Tryz.func76, Tryz.ntmps76
      go_wp2_with fail
      go_region_held3 (fun w' => w'.cell? ⟨w.heap.size, 0, none⟩ = some (.int .i64 e) ∧ w'.cell? ⟨w.heap.size, 1, none⟩ = some (.int .i64 f) ∧ w.heap.size < w'.heap.size) ((refine ⟨?_, ?_, ?_⟩ <;> first | with_reducible assumption | ((rw [cell_setRow_far _ _ _ _ _ (by omega)]); with_reducible assumption) | ((rw [setRow_size]); with_reducible assumption) | ((repeat rw [World.cell?_setCell_far _ _ _ _ (by simp)]); with_reducible assumption) | (simp; done) | (simp [World.setCell]; first | done | omega) | (simp [go_sem, World.cell?_alloc_past, World.cell?_setCell_far, *]; done))) ((first | (go_at_call 100; refine (fmField_any e f _ hg0 (by omega) _).mono ?_; rintro rv w1 ⟨rfl, hb⟩; have ns : w.heap.size < w1.heap.size := hb.ltK; have n0 : w1.cell? ⟨w.heap.size, 0, none⟩ = some (.int .i64 e) := hb.cellK; have n1 : w1.cell? ⟨w.heap.size, 1, none⟩ = some (.int .i64 f) := hb.cellK; (first | (have nx := hx.trK hb; clear hx) | have nx := hb); clear hb; try clear hs; try clear g0; try clear g1; have hx := nx; clear nx; have hs := ns; clear ns; have g0 := n0; clear n0; have g1 := n1; clear n1) | (go_at_call 101; refine (fmRest_any e f _ hg0 (by omega) _).mono ?_; rintro rv w1 ⟨rfl, hb⟩; have ns : w.heap.size < w1.heap.size := hb.ltK; have n0 : w1.cell? ⟨w.heap.size, 0, none⟩ = some (.int .i64 e) := hb.cellK; have n1 : w1.cell? ⟨w.heap.size, 1, none⟩ = some (.int .i64 f) := hb.cellK; (first | (have nx := hx.trK hb; clear hx) | have nx := hb); clear hb; try clear hs; try clear g0; try clear g1; have hx := nx; clear nx; have hs := ns; clear ns; have g0 := n0; clear n0; have g1 := n1; clear n1)))
      go_wp2_with (first | (go_at_call 100; refine (fmField_any e f _ hg0 (by omega) _).mono ?_; rintro rv w1 ⟨rfl, hb⟩; have ns : w.heap.size < w1.heap.size := hb.ltK; have n0 : w1.cell? ⟨w.heap.size, 0, none⟩ = some (.int .i64 e) := hb.cellK; have n1 : w1.cell? ⟨w.heap.size, 1, none⟩ = some (.int .i64 f) := hb.cellK; (first | (have nx := hx.trK hb; clear hx) | have nx := hb); clear hb; try clear hs; try clear g0; try clear g1; have hx := nx; clear nx; have hs := ns; clear ns; have g0 := n0; clear n0; have g1 := n1; clear n1) | (go_at_call 101; refine (fmRest_any e f _ hg0 (by omega) _).mono ?_; rintro rv w1 ⟨rfl, hb⟩; have ns : w.heap.size < w1.heap.size := hb.ltK; have n0 : w1.cell? ⟨w.heap.size, 0, none⟩ = some (.int .i64 e) := hb.cellK; have n1 : w1.cell? ⟨w.heap.size, 1, none⟩ = some (.int .i64 f) := hb.cellK; (first | (have nx := hx.trK hb; clear hx) | have nx := hb); clear hb; try clear hs; try clear g0; try clear g1; have hx := nx; clear nx; have hs := ns; clear ns; have g0 := n0; clear n0; have g1 := n1; clear n1) | (go_at_call 98; refine (fmSign_any e f _ hg0 (by omega) _).mono ?_; rintro rv w1 ⟨rfl, hb⟩; have ns : w.heap.size < w1.heap.size := hb.ltK; have n0 : w1.cell? ⟨w.heap.size, 0, none⟩ = some (.int .i64 e) := hb.cellK; have n1 : w1.cell? ⟨w.heap.size, 1, none⟩ = some (.int .i64 f) := hb.cellK; (first | (have nx := hx.trK hb; clear hx) | have nx := hb); clear hb; try clear hs; try clear g0; try clear g1; have hx := nx; clear nx; have hs := ns; clear ns; have g0 := n0; clear n0; have g1 := n1; clear n1))
      go_ret
      exact ⟨ret_int (by simp only [unitsV, magV, c1, c2, Bool.false_eq_true, if_true, if_false] <;> (try rw [if_neg (by omega)]) <;> (try rw [if_neg (by omega)])), Ext.auK⟩
    · go_enter Tryz.func76, Tryz.ntmps76
      go_wp2_with fail
      go_region_held3 (fun w' => w'.cell? ⟨w.heap.size, 0, none⟩ = some (.int .i64 e) ∧ w'.cell? ⟨w.heap.size, 1, none⟩ = some (.int .i64 f) ∧ w.heap.size < w'.heap.size) ((refine ⟨?_, ?_, ?_⟩ <;> first | with_reducible assumption | ((rw [cell_setRow_far _ _ _ _ _ (by omega)]); with_reducible assumption) | ((rw [setRow_size]); with_reducible assumption) | ((repeat rw [World.cell?_setCell_far _ _ _ _ (by simp)]); with_reducible assumption) | (simp; done) | (simp [World.setCell]; first | done | omega) | (simp [go_sem, World.cell?_alloc_past, World.cell?_setCell_far, *]; done))) ((first | (go_at_call 100; refine (fmField_any e f _ hg0 (by omega) _).mono ?_; rintro rv w1 ⟨rfl, hb⟩; have ns : w.heap.size < w1.heap.size := hb.ltK; have n0 : w1.cell? ⟨w.heap.size, 0, none⟩ = some (.int .i64 e) := hb.cellK; have n1 : w1.cell? ⟨w.heap.size, 1, none⟩ = some (.int .i64 f) := hb.cellK; (first | (have nx := hx.trK hb; clear hx) | have nx := hb); clear hb; try clear hs; try clear g0; try clear g1; have hx := nx; clear nx; have hs := ns; clear ns; have g0 := n0; clear n0; have g1 := n1; clear n1) | (go_at_call 101; refine (fmRest_any e f _ hg0 (by omega) _).mono ?_; rintro rv w1 ⟨rfl, hb⟩; have ns : w.heap.size < w1.heap.size := hb.ltK; have n0 : w1.cell? ⟨w.heap.size, 0, none⟩ = some (.int .i64 e) := hb.cellK; have n1 : w1.cell? ⟨w.heap.size, 1, none⟩ = some (.int .i64 f) := hb.cellK; (first | (have nx := hx.trK hb; clear hx) | have nx := hb); clear hb; try clear hs; try clear g0; try clear g1; have hx := nx; clear nx; have hs := ns; clear ns; have g0 := n0; clear n0; have g1 := n1; clear n1)))
      go_wp2_with (first | (go_at_call 100; refine (fmField_any e f _ hg0 (by omega) _).mono ?_; rintro rv w1 ⟨rfl, hb⟩; have ns : w.heap.size < w1.heap.size := hb.ltK; have n0 : w1.cell? ⟨w.heap.size, 0, none⟩ = some (.int .i64 e) := hb.cellK; have n1 : w1.cell? ⟨w.heap.size, 1, none⟩ = some (.int .i64 f) := hb.cellK; (first | (have nx := hx.trK hb; clear hx) | have nx := hb); clear hb; try clear hs; try clear g0; try clear g1; have hx := nx; clear nx; have hs := ns; clear ns; have g0 := n0; clear n0; have g1 := n1; clear n1) | (go_at_call 101; refine (fmRest_any e f _ hg0 (by omega) _).mono ?_; rintro rv w1 ⟨rfl, hb⟩; have ns : w.heap.size < w1.heap.size := hb.ltK; have n0 : w1.cell? ⟨w.heap.size, 0, none⟩ = some (.int .i64 e) := hb.cellK; have n1 : w1.cell? ⟨w.heap.size, 1, none⟩ = some (.int .i64 f) := hb.cellK; (first | (have nx := hx.trK hb; clear hx) | have nx := hb); clear hb; try clear hs; try clear g0; try clear g1; have hx := nx; clear nx; have hs := ns; clear ns; have g0 := n0; clear n0; have g1 := n1; clear n1) | (go_at_call 98; refine (fmSign_any e f _ hg0 (by omega) _).mono ?_; rintro rv w1 ⟨rfl, hb⟩; have ns : w.heap.size < w1.heap.size := hb.ltK; have n0 : w1.cell? ⟨w.heap.size, 0, none⟩ = some (.int .i64 e) := hb.cellK; have n1 : w1.cell? ⟨w.heap.size, 1, none⟩ = some (.int .i64 f) := hb.cellK; (first | (have nx := hx.trK hb; clear hx) | have nx := hb); clear hb; try clear hs; try clear g0; try clear g1; have hx := nx; clear nx; have hs := ns; clear ns; have g0 := n0; clear n0; have g1 := n1; clear n1))
      go_ret
      exact ⟨ret_int (by simp only [unitsV, magV, c1, c2, Bool.false_eq_true, if_true, if_false] <;> (try rw [if_neg (by omega)]) <;> (try rw [if_neg (by omega)])), Ext.auK⟩
  · cases c2 : (p / pw (e + f) == 1)
    · go_enter Tryz.func76, Tryz.ntmps76
      go_wp2_with fail
      go_region_held3 (fun w' => w'.cell? ⟨w.heap.size, 0, none⟩ = some (.int .i64 e) ∧ w'.cell? ⟨w.heap.size, 1, none⟩ = some (.int .i64 f) ∧ w.heap.size < w'.heap.size) ((refine ⟨?_, ?_, ?_⟩ <;> first | with_reducible assumption | ((rw [cell_setRow_far _ _ _ _ _ (by omega)]); with_reducible assumption) | ((rw [setRow_size]); with_reducible assumption) | ((repeat rw [World.cell?_setCell_far _ _ _ _ (by simp)]); with_reducible assumption) | (simp; done) | (simp [World.setCell]; first | done | omega) | (simp [go_sem, World.cell?_alloc_past, World.cell?_setCell_far, *]; done))) ((first | (go_at_call 100; refine (fmField_any e f _ hg0 (by omega) _).mono ?_; rintro rv w1 ⟨rfl, hb⟩; have ns : w.heap.size < w1.heap.size := hb.ltK; have n0 : w1.cell? ⟨w.heap.size, 0, none⟩ = some (.int .i64 e) := hb.cellK; have n1 : w1.cell? ⟨w.heap.size, 1, none⟩ = some (.int .i64 f) := hb.cellK; (first | (have nx := hx.trK hb; clear hx) | have nx := hb); clear hb; try clear hs; try clear g0; try clear g1; have hx := nx; clear nx; have hs := ns; clear ns; have g0 := n0; clear n0; have g1 := n1; clear n1) | (go_at_call 101; refine (fmRest_any e f _ hg0 (by omega) _).mono ?_; rintro rv w1 ⟨rfl, hb⟩; have ns : w.heap.size < w1.heap.size := hb.ltK; have n0 : w1.cell? ⟨w.heap.size, 0, none⟩ = some (.int .i64 e) := hb.cellK; have n1 : w1.cell? ⟨w.heap.size, 1, none⟩ = some (.int .i64 f) := hb.cellK; (first | (have nx := hx.trK hb; clear hx) | have nx := hb); clear hb; try clear hs; try clear g0; try clear g1; have hx := nx; clear nx; have hs := ns; clear ns; have g0 := n0; clear n0; have g1 := n1; clear n1)))
      go_wp2_with (first | (go_at_call 100; refine (fmField_any e f _ hg0 (by omega) _).mono ?_; rintro rv w1 ⟨rfl, hb⟩; have ns : w.heap.size < w1.heap.size := hb.ltK; have n0 : w1.cell? ⟨w.heap.size, 0, none⟩ = some (.int .i64 e) := hb.cellK; have n1 : w1.cell? ⟨w.heap.size, 1, none⟩ = some (.int .i64 f) := hb.cellK; (first | (have nx := hx.trK hb; clear hx) | have nx := hb); clear hb; try clear hs; try clear g0; try clear g1; have hx := nx; clear nx; have hs := ns; clear ns; have g0 := n0; clear n0; have g1 := n1; clear n1) | (go_at_call 101; refine (fmRest_any e f _ hg0 (by omega) _).mono ?_; rintro rv w1 ⟨rfl, hb⟩; have ns : w.heap.size < w1.heap.size := hb.ltK; have n0 : w1.cell? ⟨w.heap.size, 0, none⟩ = some (.int .i64 e) := hb.cellK; have n1 : w1.cell? ⟨w.heap.size, 1, none⟩ = some (.int .i64 f) := hb.cellK; (first | (have nx := hx.trK hb; clear hx) | have nx := hb); clear hb; try clear hs; try clear g0; try clear g1; have hx := nx; clear nx; have hs := ns; clear ns; have g0 := n0; clear n0; have g1 := n1; clear n1) | (go_at_call 98; refine (fmSign_any e f _ hg0 (by omega) _).mono ?_; rintro rv w1 ⟨rfl, hb⟩; have ns : w.heap.size < w1.heap.size := hb.ltK; have n0 : w1.cell? ⟨w.heap.size, 0, none⟩ = some (.int .i64 e) := hb.cellK; have n1 : w1.cell? ⟨w.heap.size, 1, none⟩ = some (.int .i64 f) := hb.cellK; (first | (have nx := hx.trK hb; clear hx) | have nx := hb); clear hb; try clear hs; try clear g0; try clear g1; have hx := nx; clear nx; have hs := ns; clear ns; have g0 := n0; clear n0; have g1 := n1; clear n1))
      go_ret
      exact ⟨ret_int (by simp only [unitsV, magV, c1, c2, Bool.false_eq_true, if_true, if_false] <;> (try rw [if_neg (by omega)]) <;> (try rw [if_neg (by omega)])), Ext.auK⟩
    · go_enter Tryz.func76, Tryz.ntmps76
      go_wp2_with fail
      go_region_held3 (fun w' => w'.cell? ⟨w.heap.size, 0, none⟩ = some (.int .i64 e) ∧ w'.cell? ⟨w.heap.size, 1, none⟩ = some (.int .i64 f) ∧ w.heap.size < w'.heap.size) ((refine ⟨?_, ?_, ?_⟩ <;> first | with_reducible assumption | ((rw [cell_setRow_far _ _ _ _ _ (by omega)]); with_reducible assumption) | ((rw [setRow_size]); with_reducible assumption) | ((repeat rw [World.cell?_setCell_far _ _ _ _ (by simp)]); with_reducible assumption) | (simp; done) | (simp [World.setCell]; first | done | omega) | (simp [go_sem, World.cell?_alloc_past, World.cell?_setCell_far, *]; done))) ((first | (go_at_call 100; refine (fmField_any e f _ hg0 (by omega) _).mono ?_; rintro rv w1 ⟨rfl, hb⟩; have ns : w.heap.size < w1.heap.size := hb.ltK; have n0 : w1.cell? ⟨w.heap.size, 0, none⟩ = some (.int .i64 e) := hb.cellK; have n1 : w1.cell? ⟨w.heap.size, 1, none⟩ = some (.int .i64 f) := hb.cellK; (first | (have nx := hx.trK hb; clear hx) | have nx := hb); clear hb; try clear hs; try clear g0; try clear g1; have hx := nx; clear nx; have hs := ns; clear ns; have g0 := n0; clear n0; have g1 := n1; clear n1) | (go_at_call 101; refine (fmRest_any e f _ hg0 (by omega) _).mono ?_; rintro rv w1 ⟨rfl, hb⟩; have ns : w.heap.size < w1.heap.size := hb.ltK; have n0 : w1.cell? ⟨w.heap.size, 0, none⟩ = some (.int .i64 e) := hb.cellK; have n1 : w1.cell? ⟨w.heap.size, 1, none⟩ = some (.int .i64 f) := hb.cellK; (first | (have nx := hx.trK hb; clear hx) | have nx := hb); clear hb; try clear hs; try clear g0; try clear g1; have hx := nx; clear nx; have hs := ns; clear ns; have g0 := n0; clear n0; have g1 := n1; clear n1)))
      go_wp2_with (first | (go_at_call 100; refine (fmField_any e f _ hg0 (by omega) _).mono ?_; rintro rv w1 ⟨rfl, hb⟩; have ns : w.heap.size < w1.heap.size := hb.ltK; have n0 : w1.cell? ⟨w.heap.size, 0, none⟩ = some (.int .i64 e) := hb.cellK; have n1 : w1.cell? ⟨w.heap.size, 1, none⟩ = some (.int .i64 f) := hb.cellK; (first | (have nx := hx.trK hb; clear hx) | have nx := hb); clear hb; try clear hs; try clear g0; try clear g1; have hx := nx; clear nx; have hs := ns; clear ns; have g0 := n0; clear n0; have g1 := n1; clear n1) | (go_at_call 101; refine (fmRest_any e f _ hg0 (by omega) _).mono ?_; rintro rv w1 ⟨rfl, hb⟩; have ns : w.heap.size < w1.heap.size := hb.ltK; have n0 : w1.cell? ⟨w.heap.size, 0, none⟩ = some (.int .i64 e) := hb.cellK; have n1 : w1.cell? ⟨w.heap.size, 1, none⟩ = some (.int .i64 f) := hb.cellK; (first | (have nx := hx.trK hb; clear hx) | have nx := hb); clear hb; try clear hs; try clear g0; try clear g1; have hx := nx; clear nx; have hs := ns; clear ns; have g0 := n0; clear n0; have g1 := n1; clear n1) | (go_at_call 98; refine (fmSign_any e f _ hg0 (by omega) _).mono ?_; rintro rv w1 ⟨rfl, hb⟩; have ns : w.heap.size < w1.heap.size := hb.ltK; have n0 : w1.cell? ⟨w.heap.size, 0, none⟩ = some (.int .i64 e) := hb.cellK; have n1 : w1.cell? ⟨w.heap.size, 1, none⟩ = some (.int .i64 f) := hb.cellK; (first | (have nx := hx.trK hb; clear hx) | have nx := hb); clear hb; try clear hs; try clear g0; try clear g1; have hx := nx; clear nx; have hs := ns; clear ns; have g0 := n0; clear n0; have g1 := n1; clear n1))
      go_ret
      exact ⟨ret_int (by simp only [unitsV, magV, c1, c2, Bool.false_eq_true, if_true, if_false] <;> (try rw [if_neg (by omega)]) <;> (try rw [if_neg (by omega)])), Ext.auK⟩

theorem fin_pat {e f p : Int} (h : finB e f p = true) : patB e f p = true ∧ p % pw (e + f) / pw f < pw e - 1 := by
  unfold finB at h
  simpa using h

theorem l1Most_any (a b : Int) (w : World) : Calls Tryz.prog 119 #[.int .i64 a, .int .i64 b] w fun rv w' => rv = .returned (.int .i64 (max a b)) ∧ w = w' := by
  by_cases h : b < a
  · go_enter Tryz.func119, Tryz.ntmps119
    go_wp2
    go_ret
    exact ⟨ret_int (by omega), rfl⟩
  · go_enter Tryz.func119, Tryz.ntmps119
    go_wp2
    go_ret
    exact ⟨ret_int (by omega), rfl⟩

/-- How far values are apart. -/
def stepV (e f p : Int) : Int := pw (max 0 (p % pw (e + f) / pw f - 1))

theorem fmStep_any (e f p : Int) (hg : patB e f p = true) (w : World) : Calls Tryz.prog 77 #[fmt e f, .int .i64 p] w fun rv w' => rv = .returned (.int .i64 (stepV e f p)) ∧ Ext w w' := by
  obtain ⟨hg0, hp0, hp1⟩ := pat_iff.1 hg
  obtain ⟨h1, h2, h3, h4⟩ := good_iff.1 hg0
  obtain ⟨⟨a1, a2⟩, ⟨b1, b2⟩, ⟨c1, c2⟩, hmul⟩ := pw_facts h1 h2 h3 h4
  have Hmul := Lib.hid hmul; clear hmul
  obtain ⟨⟨s0, s1⟩, ⟨z0, z1⟩, ⟨x0, x1⟩, ⟨r0, r1⟩, hsum⟩ := field_bd e f p hg
  have Hsum := Lib.hid hsum; clear hsum
  have m1 : 0 ≤ max 0 (p % pw (e + f) / pw f - 1) := by omega
  have m2 : max 0 (p % pw (e + f) / pw f - 1) ≤ 31 := by omega
  have k1 : (2 : Int) ^ (max 0 (p % pw (e + f) / pw f - 1)).toNat = stepV e f p := rfl
  have q1 : 1 ≤ stepV e f p := pw_pos _
  have q2 : stepV e f p ≤ 2147483648 := pw_le 31 _ rfl m2
  go_enter Tryz.func77, Tryz.ntmps77
  go_wp2_with (first | (go_at_call 100; refine (fmField_any e f _ hg0 (by omega) _).mono ?_; rintro rv w1 ⟨rfl, hb⟩; have ns : w.heap.size < w1.heap.size := hb.ltK; have n0 : w1.cell? ⟨w.heap.size, 0, none⟩ = some (.int .i64 e) := hb.cellK; have n1 : w1.cell? ⟨w.heap.size, 1, none⟩ = some (.int .i64 f) := hb.cellK; (first | (have nx := hx.trK hb; clear hx) | have nx := hb); clear hb; try clear hs; try clear g0; try clear g1; have hx := nx; clear nx; have hs := ns; clear ns; have g0 := n0; clear n0; have g1 := n1; clear n1) | (go_at_call 119; refine (l1Most_any _ _ _).mono ?_; rintro rv w1 ⟨rfl, rfl⟩))
  go_ret
  exact ⟨rfl, Ext.auK⟩
end Go.Proofs.YtmddlbphanlfhaaGreatDoor

namespace Go.Proofs.YtmddlbphanlfhaaGreatDoor
open Go Go.RowKit
set_option linter.unusedSimpArgs false
set_option linter.unusedVariables false

theorem idx1 (a b c : Int) (w : World) : (Instr.index 89 (.agg #[.int .i64 a, .int .i64 b, .int .i64 c]) (.int .i64 1)).run Tryz.prog w = .ok (.int .i64 b) w := by kernel_rfl

theorem iStepUnits_yes (e f p : Int) (hg : finB e f p = true) (w : World) : Calls Tryz.prog 190 #[fmt e f, .int .i64 p] w fun rv w' => rv = .returned (.tuple #[.int .i64 (stepV e f p), .bool true]) ∧ Ext w w' := by
  have hp := (fin_pat hg).1
  obtain ⟨hg0, hp0, hp1⟩ := pat_iff.1 hp
  obtain ⟨h1, h2, h3, h4⟩ := good_iff.1 hg0
  obtain ⟨⟨a1, a2⟩, ⟨b1, b2⟩, ⟨c1, c2⟩, hmul⟩ := pw_facts h1 h2 h3 h4
  clear hmul
  obtain ⟨⟨s0, s1⟩, ⟨z0, z1⟩, ⟨x0, x1⟩, ⟨r0, r1⟩, hsum⟩ := field_bd e f p hp
  have Hsum := Lib.hid hsum; clear hsum
  have ix := idx1 (p / pw (e + f)) (p % pw (e + f) / pw f) (p % pw f)
  by_cases hx : 1 ≤ p % pw (e + f) / pw f
  · have k1 : (2 : Int) ^ ((p % pw (e + f) / pw f).toNat - 1) = stepV e f p := by unfold stepV pw; congr 1; omega
    have q1 : 1 ≤ stepV e f p := pw_pos _
    have q2 : stepV e f p ≤ 2147483648 := pw_le 31 _ rfl (by omega)
    go_enter Tryz.func190, Tryz.ntmps190
    go_wp2_with (first | (go_at_call 66; refine (hasFinite_any e f _ _).mono ?_; rintro rv w1 ⟨rfl, hb⟩; have ns : w.heap.size < w1.heap.size := hb.ltK; have n0 : w1.cell? ⟨w.heap.size, 0, none⟩ = some (.int .i64 e) := hb.cellK; have n1 : w1.cell? ⟨w.heap.size, 1, none⟩ = some (.int .i64 f) := hb.cellK; (first | (have nx := hx.trK hb; clear hx) | have nx := hb); clear hb; try clear hs; try clear g0; try clear g1; have hx := nx; clear nx; have hs := ns; clear ns; have g0 := n0; clear n0; have g1 := n1; clear n1) | (go_at_call 139; refine (fieldsOf_any e f _ hg0 (by omega) (by omega) _).mono ?_; rintro rv w1 ⟨rfl, hb⟩; have ns : w.heap.size < w1.heap.size := hb.ltK; have n0 : w1.cell? ⟨w.heap.size, 0, none⟩ = some (.int .i64 e) := hb.cellK; have n1 : w1.cell? ⟨w.heap.size, 1, none⟩ = some (.int .i64 f) := hb.cellK; (first | (have nx := hx.trK hb; clear hx) | have nx := hb); clear hb; try clear hs; try clear g0; try clear g1; have hx := nx; clear nx; have hs := ns; clear ns; have g0 := n0; clear n0; have g1 := n1; clear n1))
    go_ret2
    exact ⟨rfl, Ext.auK⟩
  · have k1 : stepV e f p = 1 := by unfold stepV; rw [show max 0 (p % pw (e + f) / pw f - 1) = 0 by omega]; rfl
    have K1 := Lib.hid k1; clear k1
    go_enter Tryz.func190, Tryz.ntmps190
    go_wp2_with (first | (go_at_call 66; refine (hasFinite_any e f _ _).mono ?_; rintro rv w1 ⟨rfl, hb⟩; have ns : w.heap.size < w1.heap.size := hb.ltK; have n0 : w1.cell? ⟨w.heap.size, 0, none⟩ = some (.int .i64 e) := hb.cellK; have n1 : w1.cell? ⟨w.heap.size, 1, none⟩ = some (.int .i64 f) := hb.cellK; (first | (have nx := hx.trK hb; clear hx) | have nx := hb); clear hb; try clear hs; try clear g0; try clear g1; have hx := nx; clear nx; have hs := ns; clear ns; have g0 := n0; clear n0; have g1 := n1; clear n1) | (go_at_call 139; refine (fieldsOf_any e f _ hg0 (by omega) (by omega) _).mono ?_; rintro rv w1 ⟨rfl, hb⟩; have ns : w.heap.size < w1.heap.size := hb.ltK; have n0 : w1.cell? ⟨w.heap.size, 0, none⟩ = some (.int .i64 e) := hb.cellK; have n1 : w1.cell? ⟨w.heap.size, 1, none⟩ = some (.int .i64 f) := hb.cellK; (first | (have nx := hx.trK hb; clear hx) | have nx := hb); clear hb; try clear hs; try clear g0; try clear g1; have hx := nx; clear nx; have hs := ns; clear ns; have g0 := n0; clear n0; have g1 := n1; clear n1))
    go_ret2
    exact ⟨ret_ib K1.out.symm, Ext.auK⟩
end Go.Proofs.YtmddlbphanlfhaaGreatDoor

namespace Go.Proofs.YtmddlbphanlfhaaGreatDoor
open Go Go.RowKit
set_option linter.unusedSimpArgs false
set_option linter.unusedVariables false

theorem fmInfinite_any (e f : Int) (hg : goodB e f = true) (w : World) : Calls Tryz.prog 17 #[fmt e f] w fun rv w' => rv = .returned (.int .i64 ((pw e - 1) * pw f)) ∧ Ext w w' := by
  obtain ⟨h1, h2, h3, h4⟩ := good_iff.1 hg
  obtain ⟨⟨a1, a2⟩, ⟨b1, b2⟩, ⟨c1, c2⟩, hmul⟩ := pw_facts h1 h2 h3 h4
  have Hmul := Lib.hid hmul; clear hmul
  have k1 := pw_of f
  have k2 : 0 ≤ (pw e - 1) * pw f := Int.mul_nonneg (by omega) (by omega)
  have k3 : (pw e - 1) * pw f ≤ 31 * 1024 := Int.mul_le_mul (by omega) c2 (by omega) (by omega)
  have k4 : IntKind.i64.wrap ((pw e - 1) * pw f) = (pw e - 1) * pw f := IntWalk.i64_in _ (by omega)
  go_enter Tryz.func17, Tryz.ntmps17
  go_wp2_with fail
  go_region_held3 (fun w' => w'.cell? ⟨w.heap.size, 0, none⟩ = some (.int .i64 e) ∧ w'.cell? ⟨w.heap.size, 1, none⟩ = some (.int .i64 f) ∧ w.heap.size < w'.heap.size) ((refine ⟨?_, ?_, ?_⟩ <;> first | with_reducible assumption | ((rw [cell_setRow_far _ _ _ _ _ (by omega)]); with_reducible assumption) | ((rw [setRow_size]); with_reducible assumption) | ((repeat rw [World.cell?_setCell_far _ _ _ _ (by simp)]); with_reducible assumption) | (simp; done) | (simp [World.setCell]; first | done | omega) | (simp [go_sem, World.cell?_alloc_past, World.cell?_setCell_far, *]; done))) ((first | (go_at_call 38; refine (fmOnes_any e f hg _).mono ?_; rintro rv w1 ⟨rfl, hb⟩; have ns : w.heap.size < w1.heap.size := hb.ltK; have n0 : w1.cell? ⟨w.heap.size, 0, none⟩ = some (.int .i64 e) := hb.cellK; have n1 : w1.cell? ⟨w.heap.size, 1, none⟩ = some (.int .i64 f) := hb.cellK; (first | (have nx := hx.trK hb; clear hx) | have nx := hb); clear hb; try clear hs; try clear g0; try clear g1; have hx := nx; clear nx; have hs := ns; clear ns; have g0 := n0; clear n0; have g1 := n1; clear n1)))
  go_wp2
  go_ret
  exact ⟨rfl, Ext.auK⟩
end Go.Proofs.YtmddlbphanlfhaaGreatDoor

namespace Go.Proofs.YtmddlbphanlfhaaGreatDoor
open Go Go.RowKit
set_option linter.unusedSimpArgs false
set_option linter.unusedVariables false

theorem units_mg (e f p : Int) (hp : patB e f p = true) (h : p < pw (e + f)) : unitsV e f p = mgV f p := by
  obtain ⟨_, p0, _⟩ := pat_iff.1 hp
  have e1 : p % pw (e + f) = p := Int.emod_eq_of_lt p0 h
  have e2 : p / pw (e + f) = 0 := Int.ediv_eq_zero_of_lt p0 h
  unfold unitsV magV mgV
  rw [e1, e2]
  rfl

theorem great_lt {e f : Int} (hg : goodB e f = true) : 0 ≤ (pw e - 1) * pw f - 1 ∧ (pw e - 1) * pw f - 1 < pw (e + f) := by
  obtain ⟨h1, h2, h3, h4⟩ := good_iff.1 hg
  obtain ⟨⟨a1, a2⟩, ⟨b1, b2⟩, ⟨c1, c2⟩, hmul⟩ := pw_facts h1 h2 h3 h4
  have h : 3 * 2 ≤ (pw e - 1) * pw f := Int.mul_le_mul (by omega) c1 (by omega) (by omega)
  refine ⟨by omega, ?_⟩
  rw [Int.sub_mul, ← hmul]; omega

/-- What the search hands back. -/
def BelowOut (e f u : Int) (w : World) (rv : Ending) (w' : World) : Prop := ∃ p : Int, rv = .returned (.int .i64 p) ∧ IsBelow f ((pw e - 1) * pw f - 1) u p ∧ Ext w w'

set_option maxHeartbeats 3200000 in
theorem fmBelow_any (e f u : Int) (hg : goodB e f = true) (hu : 0 ≤ u) (w : World) : Calls Tryz.prog 75 #[fmt e f, .int .i64 u] w (BelowOut e f u w) := by
  obtain ⟨h1, h2, h3, h4⟩ := good_iff.1 hg
  obtain ⟨⟨a1, a2⟩, ⟨b1, b2⟩, ⟨c1, c2⟩, hmul⟩ := pw_facts h1 h2 h3 h4
  have Hmul := Lib.hid hmul; clear hmul
  obtain ⟨g0, g1⟩ := great_lt hg
  go_enter Tryz.func75, Tryz.ntmps75
  go_wp2_with (go_at_call 37; refine (fmWidth_any e f hg _).mono ?_; rintro rv w1 ⟨rfl, hb⟩; have ns : w.heap.size < w1.heap.size := hb.ltK; have n0 : w1.cell? ⟨w.heap.size, 0, none⟩ = some (.int .i64 e) := hb.cellK; have n1 : w1.cell? ⟨w.heap.size, 1, none⟩ = some (.int .i64 f) := hb.cellK; (first | (have nx := hx.trK hb; clear hx) | have nx := hb); clear hb; try clear hs; try clear g0; try clear g1; have hx := nx; clear nx; have hs := ns; clear ns; have g0 := n0; clear n0; have g1 := n1; clear n1)
  go_loopw [5, 6] (fun a b wr => ∃ q n : Int, a = .int .i64 q ∧ b = .int .i64 n ∧ -1 ≤ n ∧ n ≤ e + f - 1 ∧ Search f ((pw e - 1) * pw f - 1) u (n + 1) q ∧ Ext w wr ∧ w.heap.size < wr.heap.size ∧ wr.cell? ⟨w.heap.size, 0, none⟩ = some (.int .i64 e) ∧ wr.cell? ⟨w.heap.size, 1, none⟩ = some (.int .i64 f)) (fun _ b _ => (intOf b + 1).toNat)
  case atStart =>
    refine ⟨0, e + f - 1, rfl, ?_, by omega, by omega, ⟨by omega, by omega, ?_, .inl ?_⟩, Ext.auK, by assumption, by assumption, by assumption⟩
    · congr 1; omega
    · have : mgV f 0 = 0 := by unfold mgV; rw [if_neg (by simp)]; simp
      omega
    · rw [show e + f - 1 + 1 = e + f by omega]; omega
  case round =>
    obtain ⟨q, n, rfl, rfl, hn0, hn1, hs, hx, hsz, c0, c1'⟩ := hrel
    by_cases hlt : 0 ≤ n
    · have k1 := pw_of n
      have p0 : 1 ≤ pw n := pw_pos n
      have p1 : pw n ≤ 32768 := pw_le 15 32768 rfl (by omega)
      have q0 : 0 ≤ q := hs.1
      have q1 : q ≤ (pw e - 1) * pw f - 1 := hs.2.1
      by_cases hG : q + pw n ≤ (pw e - 1) * pw f - 1
      · have hp : patB e f (q + pw n) = true := pat_iff.2 ⟨hg, by omega, by omega⟩
        have hmg := units_mg e f (q + pw n) hp (by omega)
        have HM := Lib.hid hmg; clear hmg
        by_cases hU : unitsV e f (q + pw n) ≤ u
        · have hs2 := search_take (by omega) hs (by rwa [show n + 1 - 1 = n by omega]) (by rw [show n + 1 - 1 = n by omega, ← HM.out]; exact hU)
          rw [show n + 1 - 1 = n by omega] at hs2
          have HS := Lib.hid hs2; clear hs2 hs
          go_wp2_with (first | (go_at_call 118; refine (fmGreatest_any e f hg _).mono ?_; rintro rv w1 ⟨rfl, hb⟩; have ns : w.heap.size < w1.heap.size := hb.ltK; have n0 : w1.cell? ⟨w.heap.size, 0, none⟩ = some (.int .i64 e) := hb.cellK; have n1 : w1.cell? ⟨w.heap.size, 1, none⟩ = some (.int .i64 f) := hb.cellK; (first | (have nx := hx.trK hb; clear hx) | have nx := hb); clear hb; try clear hs; try clear g0; try clear g1; have hx := nx; clear nx; have hs := ns; clear ns; have g0 := n0; clear n0; have g1 := n1; clear n1) | (go_at_call 76; refine (fmUnits_any e f _ hp _).mono ?_; rintro rv w1 ⟨rfl, hb⟩; have ns : w.heap.size < w1.heap.size := hb.ltK; have n0 : w1.cell? ⟨w.heap.size, 0, none⟩ = some (.int .i64 e) := hb.cellK; have n1 : w1.cell? ⟨w.heap.size, 1, none⟩ = some (.int .i64 f) := hb.cellK; (first | (have nx := hx.trK hb; clear hx) | have nx := hb); clear hb; try clear hs; try clear g0; try clear g1; have hx := nx; clear nx; have hs := ns; clear ns; have g0 := n0; clear n0; have g1 := n1; clear n1))
          go_roundw
          case rel => exact ⟨q + pw n, n - 1, rfl, rfl, by omega, by omega, by rw [show n - 1 + 1 = n by omega]; exact HS.out, Ext.auK, (by with_reducible assumption), (by with_reducible assumption), (by with_reducible assumption)⟩
          case measure => simp [intOf]; omega
        · have hs2 := search_leave hs (.inr (by rw [show n + 1 - 1 = n by omega, ← HM.out]; omega))
          rw [show n + 1 - 1 = n by omega] at hs2
          have HS := Lib.hid hs2; clear hs2 hs
          go_wp2_with (first | (go_at_call 118; refine (fmGreatest_any e f hg _).mono ?_; rintro rv w1 ⟨rfl, hb⟩; have ns : w.heap.size < w1.heap.size := hb.ltK; have n0 : w1.cell? ⟨w.heap.size, 0, none⟩ = some (.int .i64 e) := hb.cellK; have n1 : w1.cell? ⟨w.heap.size, 1, none⟩ = some (.int .i64 f) := hb.cellK; (first | (have nx := hx.trK hb; clear hx) | have nx := hb); clear hb; try clear hs; try clear g0; try clear g1; have hx := nx; clear nx; have hs := ns; clear ns; have g0 := n0; clear n0; have g1 := n1; clear n1) | (go_at_call 76; refine (fmUnits_any e f _ hp _).mono ?_; rintro rv w1 ⟨rfl, hb⟩; have ns : w.heap.size < w1.heap.size := hb.ltK; have n0 : w1.cell? ⟨w.heap.size, 0, none⟩ = some (.int .i64 e) := hb.cellK; have n1 : w1.cell? ⟨w.heap.size, 1, none⟩ = some (.int .i64 f) := hb.cellK; (first | (have nx := hx.trK hb; clear hx) | have nx := hb); clear hb; try clear hs; try clear g0; try clear g1; have hx := nx; clear nx; have hs := ns; clear ns; have g0 := n0; clear n0; have g1 := n1; clear n1))
          go_roundw
          case rel => exact ⟨q, n - 1, rfl, rfl, by omega, by omega, by rw [show n - 1 + 1 = n by omega]; exact HS.out, Ext.auK, (by with_reducible assumption), (by with_reducible assumption), (by with_reducible assumption)⟩
          case measure => simp [intOf]; omega
      · have hs2 := search_leave hs (.inl (by rw [show n + 1 - 1 = n by omega]; omega))
        rw [show n + 1 - 1 = n by omega] at hs2
        have HS := Lib.hid hs2; clear hs2 hs
        go_wp2_with (first | (go_at_call 118; refine (fmGreatest_any e f hg _).mono ?_; rintro rv w1 ⟨rfl, hb⟩; have ns : w.heap.size < w1.heap.size := hb.ltK; have n0 : w1.cell? ⟨w.heap.size, 0, none⟩ = some (.int .i64 e) := hb.cellK; have n1 : w1.cell? ⟨w.heap.size, 1, none⟩ = some (.int .i64 f) := hb.cellK; (first | (have nx := hx.trK hb; clear hx) | have nx := hb); clear hb; try clear hs; try clear g0; try clear g1; have hx := nx; clear nx; have hs := ns; clear ns; have g0 := n0; clear n0; have g1 := n1; clear n1))
        go_roundw
        case rel => exact ⟨q, n - 1, rfl, rfl, by omega, by omega, by rw [show n - 1 + 1 = n by omega]; exact HS.out, Ext.auK, (by with_reducible assumption), (by with_reducible assumption), (by with_reducible assumption)⟩
        case measure => simp [intOf]; omega
    · go_wp2_with fail
      go_ret
      exact ⟨q, rfl, search_done (by rwa [show n + 1 = 0 by omega] at hs), hx⟩
end Go.Proofs.YtmddlbphanlfhaaGreatDoor

namespace Go.Proofs.YtmddlbphanlfhaaGreatDoor
open Go Go.RowKit

theorem cell_set_far (w : World) (b i k o : Nat) (v : Value) (h : b ≠ k) : (w.setCell ⟨b, i, none⟩ v).cell? ⟨k, o, none⟩ = w.cell? ⟨k, o, none⟩ := World.cell?_setCell_far w _ _ v h

theorem cell_alloc_drew (w : World) (A : Obj) (k o : Nat) (h : k < w.heap.size) : (w.drew.alloc A).cell? ⟨k, o, none⟩ = w.cell? ⟨k, o, none⟩ := cell_alloc_before w.drew A k o h

theorem cell_drew (w : World) (a : Addr) : w.drew.cell? a = w.cell? a := rfl
end Go.Proofs.YtmddlbphanlfhaaGreatDoor

namespace Go.Proofs.YtmddlbphanlfhaaGreatDoor
open Go Go.RowKit
set_option linter.unusedSimpArgs false
set_option linter.unusedVariables false

/-- The pattern with the other sign. -/
def negV (e f p : Int) : Int := (1 - p / pw (e + f)) * pw (e + f) + p % pw (e + f)

theorem inf_pat (e f : Int) (hg : goodB e f = true) : patB e f ((pw e - 1) * pw f) = true := by
  obtain ⟨h1, h2, h3, h4⟩ := good_iff.1 hg
  have b1 := (pw_facts h1 h2 h3 h4).2.1.1
  have c1 := (pw_facts h1 h2 h3 h4).2.2.1.1
  have a1 := (pw_facts h1 h2 h3 h4).1.1
  refine pat_iff.2 ⟨hg, Int.mul_nonneg (by omega) (by omega), ?_⟩
  rw [Int.sub_mul, ← (pw_facts h1 h2 h3 h4).2.2.2]; omega

theorem iNegateV_any (e f p : Int) (hg : patB e f p = true) (w : World) : Calls Tryz.prog 50 #[fmt e f, .int .i64 p] w fun rv w' => rv = .returned (.tuple #[.int .i64 (negV e f p), .bool true]) ∧ Ext w w' := iNegateOf_yes e f p hg w
end Go.Proofs.YtmddlbphanlfhaaGreatDoor

