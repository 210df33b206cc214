/-
  Contracts of the functions that the laws reach, and the plain facts that they rest on, each under the conditions that its line names; part 3.
-/
import Derived.Test.YtmddlbphanlfhaaKpo1
import Derived.Test.YtmddlbphanlfhaaRows
import Derived.WalkKit
import Derived.WalkSpells
import Derived.WalkLawsBesides
import Derived.StillTactics
import Derived.Laws.Pointers
import Derived.Deep.RegionHeld3
import Derived.Deep.QuietTactic
import Derived.BigQuiet
import Derived.Outline
import Derived.Lib.Hide
import Derived.RowKit3
import Derived.Carry
import Derived.IntWalk
namespace Go.Proofs.Ytmddlbphanlfhaa
open Go Go.RowKit
set_option linter.unusedSimpArgs false
set_option linter.unusedVariables false

abbrev fmt (e f : Int) : Value := .agg #[.int .i64 e, .int .i64 f]

/-- New blocks lie behind; nothing that was there has turned. -/
def Ext (w w' : World) : Prop := Below w.heap.size w w'

theorem Ext.refl (w : World) : Ext w w := Below.refl _ _

theorem Ext.trans {a b c : World} (h : Ext a b) (k : Ext b c) : Ext a c := Below.trans h (Below.mono k (Below.size h))

theorem Ext.alloc {a b : World} (h : Ext a b) (o : Obj) : Ext a (b.alloc o) := Below.alloc h (Below.size h) o

theorem Ext.drew {a b : World} (h : Ext a b) : Ext a b.drew := Below.drew h

theorem below_drewN {B : Nat} {a b : World} (h : Below B a b) (n : Nat) : Below B a (b.drewN n) := ⟨h.os, h.tape, h.output, h.size, h.block⟩

theorem Ext.drewN {a b : World} (h : Ext a b) (n : Nat) : Ext a (b.drewN n) := below_drewN h n

theorem Ext.setCell {a b : World} (h : Ext a b) {p : Addr} (hp : a.heap.size ≤ p.block) (v : Value) : Ext a (b.setCell p v) := Below.setCell h hp v

theorem Ext.new (a : World) (o : Obj) : Ext a (a.alloc o) := (Ext.refl a).alloc o

theorem Ext.cells {a b : World} (h : Ext a b) : ∀ k o, k < a.heap.size → b.cell? ⟨k, o, none⟩ = a.cell? ⟨k, o, none⟩ := fun k o hk => Below.cell (p := ⟨k, o, none⟩) h hk

theorem Ext.frz {a b : World} (h : Ext a b) : ∀ k o, k < a.heap.size → b.frozen? ⟨k, o, none⟩ = a.frozen? ⟨k, o, none⟩ := fun k o hk => Below.frozen (p := ⟨k, o, none⟩) h hk

theorem Ext.heap {a b : World} (h : Ext a b) : ∀ k, k < a.heap.size → b.heap[k]? = a.heap[k]? := Below.block h

theorem setRow_far (w : World) (g k : Nat) (cs : Array Value) (h : k ≠ g) : (w.setRow g cs).heap[k]? = w.heap[k]? := by
  simp only [World.setRow, Array.getElem?_modify]
  rw [if_neg (by omega)]

theorem cell_setRow_far (w : World) (g k o : Nat) (cs : Array Value) (h : k ≠ g) : (w.setRow g cs).cell? ⟨k, o, none⟩ = w.cell? ⟨k, o, none⟩ := by
  unfold World.cell?
  rw [setRow_far w g k cs h]

theorem cell_alloc_before (w : World) (A : Obj) (k o : Nat) (h : k < w.heap.size) : (w.alloc A).cell? ⟨k, o, none⟩ = w.cell? ⟨k, o, none⟩ := (Ext.new w A).cells k o h

theorem below_setRow {B : Nat} {a b : World} (h : Below B a b) {g : Nat} (hg : B ≤ g) (cs : Array Value) : Below B a (b.setRow g cs) :=
  h.trans ⟨rfl, rfl, rfl, by simp [World.setRow], fun k hk => setRow_far _ _ _ _ (by omega)⟩

theorem Ext.setRow {a b : World} (h : Ext a b) {g : Nat} (hg : a.heap.size ≤ g) (cs : Array Value) : Ext a (b.setRow g cs) := below_setRow h hg cs

theorem setRow_size (w : World) (g : Nat) (cs : Array Value) : (w.setRow g cs).heap.size = w.heap.size := by simp [World.setRow]

theorem Ext.lt {a b : World} (h : Ext a b) {k : Nat} (hk : k < a.heap.size) : k < b.heap.size := Nat.lt_of_lt_of_le hk (Below.size h)

theorem Ext.ltK {a b : World} (h : Ext a b) {k : Nat} (hk : k < a.heap.size := by first | with_reducible assumption | omega | (simp; done) | (simp; omega)) : k < b.heap.size := h.lt hk

theorem Ext.cellK {a b : World} (h : Ext a b) {k o : Nat} {v : Value} (hk : k < a.heap.size := by first | with_reducible assumption | omega | (simp; done) | (simp; omega)) (hc : a.cell? ⟨k, o, none⟩ = some v := by first | with_reducible assumption | (simp; done) | (simp; with_reducible assumption) | (rw [cell_alloc_before _ _ _ _ (by omega)]; with_reducible assumption) | (simp [go_sem, *]; done)) : b.cell? ⟨k, o, none⟩ = some v := (h.cells _ _ hk).trans hc

theorem Ext.frzK {a b : World} (h : Ext a b) {k o : Nat} (hk : k < a.heap.size := by first | with_reducible assumption | omega | (simp; done) | (simp; omega)) (hc : a.frozen? ⟨k, o, none⟩ = false := by first | with_reducible assumption | (simp [go_sem]; done) | (simp [go_sem]; with_reducible assumption)) : b.frozen? ⟨k, o, none⟩ = false := (h.frz _ _ hk).trans hc

theorem Ext.auK {a b : World} (h : Ext a b := by repeat (first | exact Ext.refl _ | with_reducible assumption | apply Ext.alloc | apply Ext.drew | apply Ext.drewN | (refine Ext.setRow ?_ (by first | (simp; done) | (simp; omega) | omega) _) | (refine Ext.setCell ?_ (by first | (simp; done) | (simp; omega) | omega) _) | (refine Ext.trans ?_ (by with_reducible assumption)))) : Ext a b := h

theorem Ext.trK {a b c d : World} (x : Ext a b) (y : Ext c d) (h : Ext b c := by first | with_reducible exact Ext.refl _ | with_reducible exact (Ext.refl _).alloc _ | with_reducible exact Ext.drew (Ext.refl _)) : Ext a d := Ext.trans (Ext.trans x h) y

theorem ret_bool {a b : Bool} (h : a = b) : Ending.returned (.bool a) = .returned (.bool b) := by rw [h]

theorem ret_int {k : IntKind} {a b : Int} (h : a = b) : Ending.returned (.int k a) = .returned (.int k b) := by rw [h]

theorem l1In_any (n lo hi : Int) (w : World) : Calls Try.prog 59 #[.int .i64 n, .int .i64 lo, .int .i64 hi] w fun rv w' => rv = .returned (.bool (decide (lo ≤ n ∧ n ≤ hi))) ∧ w = w' := by
  by_cases h1 : lo ≤ n <;> by_cases h2 : n ≤ hi
  all_goals
    go_enter Try.func59, Try.ntmps59
    go_wp2
    go_ret
    exact ⟨by simp [h1, h2] <;> omega, rfl⟩

theorem fmGood_any (e f : Int) (w : World) : Calls Try.prog 58 #[fmt e f] w fun rv w' => rv = .returned (.bool (goodB e f)) ∧ Ext w w' := by
  by_cases h1 : 2 ≤ e ∧ e ≤ 5
  · have hd : decide (2 ≤ e ∧ e ≤ 5) = true := by simpa using h1
    go_enter Try.func58, Try.ntmps58
    go_wp2_with (go_at_call 59; refine (l1In_any _ _ _ _).mono ?_; rintro rv w1 ⟨rfl, rfl⟩)
    go_ret
    exact ⟨ret_bool (by simp [goodB, h1.1, h1.2]), Ext.new _ _⟩
  · have hd : decide (2 ≤ e ∧ e ≤ 5) = false := by simpa using h1
    go_enter Try.func58, Try.ntmps58
    go_wp2_with (go_at_call 59; refine (l1In_any _ _ _ _).mono ?_; rintro rv w1 ⟨rfl, rfl⟩)
    go_ret
    exact ⟨ret_bool (by simp [goodB]; omega), Ext.new _ _⟩

theorem isFormat_any (e f : Int) (w : World) : Calls Try.prog 54 #[fmt e f] w fun rv w' => rv = .returned (.bool (goodB e f)) ∧ Ext w w' := by
  by_cases h1 : 2 ≤ e
  · by_cases h2 : e ≤ 5
    · by_cases h3 : 1 ≤ f
      · go_enter Try.func54, Try.ntmps54
        go_wp2
        go_ret
        exact ⟨ret_bool (by simp [goodB, h1, h2, h3]), Ext.new _ _⟩
      · go_enter Try.func54, Try.ntmps54
        go_wp2
        go_ret
        exact ⟨ret_bool (by simp [goodB]; omega), Ext.new _ _⟩
    · go_enter Try.func54, Try.ntmps54
      go_wp2
      go_ret
      exact ⟨ret_bool (by simp [goodB]; omega), Ext.new _ _⟩
  · go_enter Try.func54, Try.ntmps54
    go_wp2
    go_ret
    exact ⟨ret_bool (by simp [goodB]; omega), Ext.new _ _⟩

theorem signBit_any (e f : Int) (hg : goodB e f = true) (w : World) : Calls Try.prog 44 #[fmt e f] w fun rv w' => rv = .returned (.int .i64 (pw (e + f))) ∧ Ext w w' := by
  obtain ⟨h1, h2, h3, h4⟩ := good_iff.1 hg
  obtain ⟨⟨a1, a2⟩, ⟨b1, b2⟩, ⟨c1, c2⟩, hmul⟩ := pw_facts h1 h2 h3 h4
  have Hmul := Lib.hid hmul; clear hmul
  have k1 := pw_of (e + f)
  go_enter Try.func44, Try.ntmps44
  go_wp2
  go_ret
  exact ⟨rfl, Ext.new _ _⟩

theorem exponentOnes_any (e f : Int) (hg : goodB e f = true) (w : World) : Calls Try.prog 61 #[fmt e f] w fun rv w' => rv = .returned (.int .i64 (pw e - 1)) ∧ Ext w w' := by
  obtain ⟨h1, h2, h3, h4⟩ := good_iff.1 hg
  obtain ⟨⟨a1, a2⟩, ⟨b1, b2⟩, ⟨c1, c2⟩, hmul⟩ := pw_facts h1 h2 h3 h4
  have Hmul := Lib.hid hmul; clear hmul
  have k1 := pw_of e
  go_enter Try.func61, Try.ntmps61
  go_wp2
  go_ret
  exact ⟨rfl, Ext.new _ _⟩

theorem fractionOnes_any (e f : Int) (hg : goodB e f = true) (w : World) : Calls Try.prog 62 #[fmt e f] w fun rv w' => rv = .returned (.int .i64 (pw f - 1)) ∧ Ext w w' := by
  obtain ⟨h1, h2, h3, h4⟩ := good_iff.1 hg
  obtain ⟨⟨a1, a2⟩, ⟨b1, b2⟩, ⟨c1, c2⟩, hmul⟩ := pw_facts h1 h2 h3 h4
  have Hmul := Lib.hid hmul; clear hmul
  have k1 := pw_of f
  go_enter Try.func62, Try.ntmps62
  go_wp2
  go_ret
  exact ⟨rfl, Ext.new _ _⟩

theorem fmWidth_any (e f : Int) (hg : goodB e f = true) (w : World) : Calls Try.prog 101 #[fmt e f] w fun rv w' => rv = .returned (.int .i64 (1 + e + f)) ∧ Ext w w' := by
  obtain ⟨h1, h2, h3, h4⟩ := good_iff.1 hg
  obtain ⟨⟨a1, a2⟩, ⟨b1, b2⟩, ⟨c1, c2⟩, hmul⟩ := pw_facts h1 h2 h3 h4
  have Hmul := Lib.hid hmul; clear hmul
  go_enter Try.func101, Try.ntmps101
  go_wp2
  go_ret
  exact ⟨rfl, Ext.new _ _⟩

theorem fmOnes_any (e f : Int) (hg : goodB e f = true) (w : World) : Calls Try.prog 96 #[fmt e f] w fun rv w' => rv = .returned (.int .i64 (pw e - 1)) ∧ Ext w w' := by
  obtain ⟨h1, h2, h3, h4⟩ := good_iff.1 hg
  obtain ⟨⟨a1, a2⟩, ⟨b1, b2⟩, ⟨c1, c2⟩, hmul⟩ := pw_facts h1 h2 h3 h4
  have Hmul := Lib.hid hmul; clear hmul
  have k1 := pw_of e
  go_enter Try.func96, Try.ntmps96
  go_wp2
  go_ret
  exact ⟨rfl, Ext.new _ _⟩

theorem fmRest_any (e f p : Int) (hg : goodB e f = true) (hp : 0 ≤ p) (w : World) : Calls Try.prog 107 #[fmt e f, .int .i64 p] w fun rv w' => rv = .returned (.int .i64 (p % pw f)) ∧ Ext w w' := by
  obtain ⟨h1, h2, h3, h4⟩ := good_iff.1 hg
  obtain ⟨⟨a1, a2⟩, ⟨b1, b2⟩, ⟨c1, c2⟩, hmul⟩ := pw_facts h1 h2 h3 h4
  have Hmul := Lib.hid hmul; clear hmul
  have k1 := pw_of f
  go_enter Try.func107, Try.ntmps107
  go_wp2
  go_ret
  exact ⟨rfl, Ext.new _ _⟩

theorem fmSize_any (e f p : Int) (hg : goodB e f = true) (hp : 0 ≤ p) (w : World) : Calls Try.prog 50 #[fmt e f, .int .i64 p] w fun rv w' => rv = .returned (.int .i64 (p % pw (e + f))) ∧ Ext w w' := by
  obtain ⟨h1, h2, h3, h4⟩ := good_iff.1 hg
  obtain ⟨⟨a1, a2⟩, ⟨b1, b2⟩, ⟨c1, c2⟩, hmul⟩ := pw_facts h1 h2 h3 h4
  have Hmul := Lib.hid hmul; clear hmul
  have k1 : (2 : Int) ^ ((1 + e + f).toNat - 1) = pw (e + f) := by unfold pw; congr 1; omega
  have k2 : ¬ pw (e + f) = 0 := by omega
  have k3 : (pw (e + f) == 0) = false := by simpa using k2
  have k5 : p.tmod (pw (e + f)) = p % pw (e + f) := Int.tmod_eq_emod_of_nonneg hp
  go_enter Try.func50, Try.ntmps50
  go_wp2_with (go_at_call 101; refine (fmWidth_any e f hg _).mono ?_; rintro rv w1 ⟨rfl, hb⟩; have ns : w.heap.size < w1.heap.size := hb.ltK; have n0 : w1.cell? ⟨w.heap.size, 0, none⟩ = some (.int .i64 e) := hb.cellK; have n1 : w1.cell? ⟨w.heap.size, 1, none⟩ = some (.int .i64 f) := hb.cellK; (first | (have nx := hx.trK hb; clear hx) | have nx := hb); clear hb; try clear hs; try clear g0; try clear g1; have hx := nx; clear nx; have hs := ns; clear ns; have g0 := n0; clear n0; have g1 := n1; clear n1)
  go_ret
  exact ⟨rfl, Ext.auK⟩

theorem fmSign_any (e f p : Int) (hg : goodB e f = true) (hp : 0 ≤ p) (w : World) : Calls Try.prog 97 #[fmt e f, .int .i64 p] w fun rv w' => rv = .returned (.int .i64 (p / pw (e + f))) ∧ Ext w w' := by
  obtain ⟨h1, h2, h3, h4⟩ := good_iff.1 hg
  obtain ⟨⟨a1, a2⟩, ⟨b1, b2⟩, ⟨c1, c2⟩, hmul⟩ := pw_facts h1 h2 h3 h4
  have Hmul := Lib.hid hmul; clear hmul
  have k1 : (2 : Int) ^ ((1 + e + f).toNat - 1) = pw (e + f) := by unfold pw; congr 1; omega
  go_enter Try.func97, Try.ntmps97
  go_wp2_with (go_at_call 101; refine (fmWidth_any e f hg _).mono ?_; rintro rv w1 ⟨rfl, hb⟩; have ns : w.heap.size < w1.heap.size := hb.ltK; have n0 : w1.cell? ⟨w.heap.size, 0, none⟩ = some (.int .i64 e) := hb.cellK; have n1 : w1.cell? ⟨w.heap.size, 1, none⟩ = some (.int .i64 f) := hb.cellK; (first | (have nx := hx.trK hb; clear hx) | have nx := hb); clear hb; try clear hs; try clear g0; try clear g1; have hx := nx; clear nx; have hs := ns; clear ns; have g0 := n0; clear n0; have g1 := n1; clear n1)
  go_ret
  exact ⟨rfl, Ext.auK⟩

theorem fmField_any (e f p : Int) (hg : goodB e f = true) (hp : 0 ≤ p) (w : World) : Calls Try.prog 106 #[fmt e f, .int .i64 p] w fun rv w' => rv = .returned (.int .i64 (p % pw (e + f) / pw f)) ∧ Ext w w' := by
  obtain ⟨h1, h2, h3, h4⟩ := good_iff.1 hg
  obtain ⟨⟨a1, a2⟩, ⟨b1, b2⟩, ⟨c1, c2⟩, hmul⟩ := pw_facts h1 h2 h3 h4
  have Hmul := Lib.hid hmul; clear hmul
  have k1 := pw_of f
  have k2 : 0 ≤ p % pw (e + f) := Int.emod_nonneg _ (by omega)
  go_enter Try.func106, Try.ntmps106
  go_wp2_with fail
  go_region_held3 (fun w' => w'.cell? ⟨w.heap.size, 0, none⟩ = some (.int .i64 e) ∧ w'.cell? ⟨w.heap.size, 1, none⟩ = some (.int .i64 f) ∧ w.heap.size < w'.heap.size) ((refine ⟨?_, ?_, ?_⟩ <;> first | with_reducible assumption | ((rw [cell_setRow_far _ _ _ _ _ (by omega)]); with_reducible assumption) | ((rw [setRow_size]); with_reducible assumption) | ((repeat rw [World.cell?_setCell_far _ _ _ _ (by simp)]); with_reducible assumption) | (simp; done) | (simp [World.setCell]; first | done | omega) | (simp [go_sem, World.cell?_alloc_past, World.cell?_setCell_far, *]; done))) ((first | (go_at_call 50; refine (fmSize_any e f _ hg hp _).mono ?_; rintro rv w1 ⟨rfl, hb⟩; have ns : w.heap.size < w1.heap.size := hb.ltK; have n0 : w1.cell? ⟨w.heap.size, 0, none⟩ = some (.int .i64 e) := hb.cellK; have n1 : w1.cell? ⟨w.heap.size, 1, none⟩ = some (.int .i64 f) := hb.cellK; (first | (have nx := hx.trK hb; clear hx) | have nx := hb); clear hb; try clear hs; try clear g0; try clear g1; have hx := nx; clear nx; have hs := ns; clear ns; have g0 := n0; clear n0; have g1 := n1; clear n1)))
  go_wp2
  go_ret
  exact ⟨rfl, Ext.auK⟩

theorem fmGreatest_any (e f : Int) (hg : goodB e f = true) (w : World) : Calls Try.prog 63 #[fmt e f] w fun rv w' => rv = .returned (.int .i64 ((pw e - 1) * pw f - 1)) ∧ Ext w w' := by
  obtain ⟨h1, h2, h3, h4⟩ := good_iff.1 hg
  obtain ⟨⟨a1, a2⟩, ⟨b1, b2⟩, ⟨c1, c2⟩, hmul⟩ := pw_facts h1 h2 h3 h4
  have Hmul := Lib.hid hmul; clear hmul
  have k1 := pw_of f
  have k2 : 0 ≤ (pw e - 1) * pw f := Int.mul_nonneg (by omega) (by omega)
  have k3 : (pw e - 1) * pw f ≤ 31 * 1024 := Int.mul_le_mul (by omega) c2 (by omega) (by omega)
  have k4 : IntKind.i64.wrap ((pw e - 1) * pw f) = (pw e - 1) * pw f := IntWalk.i64_in _ (by omega)
  have k5 : IntKind.i64.wrap ((pw e - 1) * pw f - 1) = (pw e - 1) * pw f - 1 := IntWalk.i64_in _ (by omega)
  go_enter Try.func63, Try.ntmps63
  go_wp2_with fail
  go_region_held3 (fun w' => w'.cell? ⟨w.heap.size, 0, none⟩ = some (.int .i64 e) ∧ w'.cell? ⟨w.heap.size, 1, none⟩ = some (.int .i64 f) ∧ w.heap.size < w'.heap.size) ((refine ⟨?_, ?_, ?_⟩ <;> first | with_reducible assumption | ((rw [cell_setRow_far _ _ _ _ _ (by omega)]); with_reducible assumption) | ((rw [setRow_size]); with_reducible assumption) | ((repeat rw [World.cell?_setCell_far _ _ _ _ (by simp)]); with_reducible assumption) | (simp; done) | (simp [World.setCell]; first | done | omega) | (simp [go_sem, World.cell?_alloc_past, World.cell?_setCell_far, *]; done))) ((first | (go_at_call 96; refine (fmOnes_any e f hg _).mono ?_; rintro rv w1 ⟨rfl, hb⟩; have ns : w.heap.size < w1.heap.size := hb.ltK; have n0 : w1.cell? ⟨w.heap.size, 0, none⟩ = some (.int .i64 e) := hb.cellK; have n1 : w1.cell? ⟨w.heap.size, 1, none⟩ = some (.int .i64 f) := hb.cellK; (first | (have nx := hx.trK hb; clear hx) | have nx := hb); clear hb; try clear hs; try clear g0; try clear g1; have hx := nx; clear nx; have hs := ns; clear ns; have g0 := n0; clear n0; have g1 := n1; clear n1)))
  go_wp2
  go_ret
  exact ⟨rfl, Ext.auK⟩

theorem fmOf_any (e f s m : Int) (hg : goodB e f = true) (hs0 : 0 ≤ s) (hs1 : s ≤ 1) (hm0 : 0 ≤ m) (hm1 : m ≤ 65536) (w : World) : Calls Try.prog 67 #[fmt e f, .int .i64 s, .int .i64 m] w fun rv w' => rv = .returned (.int .i64 (s * pw (e + f) + m)) ∧ Ext w w' := by
  obtain ⟨h1, h2, h3, h4⟩ := good_iff.1 hg
  obtain ⟨⟨a1, a2⟩, ⟨b1, b2⟩, ⟨c1, c2⟩, hmul⟩ := pw_facts h1 h2 h3 h4
  have Hmul := Lib.hid hmul; clear hmul
  have k1 : (2 : Int) ^ ((1 + e + f).toNat - 1) = pw (e + f) := by unfold pw; congr 1; omega
  have k2 : 0 ≤ s * pw (e + f) := Int.mul_nonneg hs0 (by omega)
  have k3 : s * pw (e + f) ≤ 1 * 32768 := Int.mul_le_mul hs1 a2 (by omega) (by omega)
  go_enter Try.func67, Try.ntmps67
  go_wp2_with (go_at_call 101; refine (fmWidth_any e f hg _).mono ?_; rintro rv w1 ⟨rfl, hb⟩; have ns : w.heap.size < w1.heap.size := hb.ltK; have n0 : w1.cell? ⟨w.heap.size, 0, none⟩ = some (.int .i64 e) := hb.cellK; have n1 : w1.cell? ⟨w.heap.size, 1, none⟩ = some (.int .i64 f) := hb.cellK; (first | (have nx := hx.trK hb; clear hx) | have nx := hb); clear hb; try clear hs; try clear g0; try clear g1; have hx := nx; clear nx; have hs := ns; clear ns; have g0 := n0; clear n0; have g1 := n1; clear n1)
  go_ret
  exact ⟨rfl, Ext.auK⟩
end Go.Proofs.Ytmddlbphanlfhaa

namespace Go.Proofs.Ytmddlbphanlfhaa
open Go Go.RowKit
set_option linter.unusedSimpArgs false
set_option linter.unusedVariables false

set_option maxHeartbeats 1600000 in
theorem fieldsOf_any (e f p : Int) (hg : goodB e f = true) (hp : 0 ≤ p) (hp2 : p ≤ 65535) (w : World) : Calls Try.prog 52 #[fmt e f, .int .i64 p] w fun rv w' => rv = .returned (.agg #[.int .i64 (p / pw (e + f)), .int .i64 (p % pw (e + f) / pw f), .int .i64 (p % pw f)]) ∧ Ext w w' := by
  obtain ⟨h1, h2, h3, h4⟩ := good_iff.1 hg
  obtain ⟨⟨a1, a2⟩, ⟨b1, b2⟩, ⟨c1, c2⟩, hmul⟩ := pw_facts h1 h2 h3 h4
  have Hmul := Lib.hid hmul; clear hmul
  have k1 := pw_of f
  have k2 : ¬ pw (e + f) = 0 := by omega
  have k3 : (pw (e + f) == 0) = false := by simpa using k2
  have k4 : IntKind.i64.wrap (p.tdiv (pw (e + f))) = p / pw (e + f) := IntWalk.i64_quo _ _ (by omega)
  have q0 := IntWalk.tdiv_le p (pw f) hp (by omega)
  have k5 : bits .and .i64 (p / pw f) (pw e - 1) = p % pw (e + f) / pw f := by rw [and_pw _ e q0.1 (by omega) (by omega), Hmul.out, field_eq p _ _ hp (by omega) (by omega)]
  have k6 : bits .and .i64 p (pw f - 1) = p % pw f := and_pw p f hp (by omega) (by omega)
  go_enter Try.func52, Try.ntmps52
  go_wp2_with fail
  go_region_held3 (fun w' => w'.cell? ⟨w.heap.size, 0, none⟩ = some (.int .i64 e) ∧ w'.cell? ⟨w.heap.size, 1, none⟩ = some (.int .i64 f) ∧ w.heap.size + 1 < w'.heap.size) ((refine ⟨?_, ?_, ?_⟩ <;> first | with_reducible assumption | ((rw [cell_setRow_far _ _ _ _ _ (by omega)]); with_reducible assumption) | ((rw [setRow_size]); with_reducible assumption) | ((repeat rw [World.cell?_setCell_far _ _ _ _ (by simp)]); with_reducible assumption) | (simp; done) | (simp [World.setCell]; first | done | omega) | (simp [go_sem, World.cell?_alloc_past, World.cell?_setCell_far, *]; done))) ((first | (go_at_call 44; refine (signBit_any e f hg _).mono ?_; rintro rv w1 ⟨rfl, hb⟩; have ns : w.heap.size + 1 < w1.heap.size := hb.ltK; have n0 : w1.cell? ⟨w.heap.size, 0, none⟩ = some (.int .i64 e) := hb.cellK; have n1 : w1.cell? ⟨w.heap.size, 1, none⟩ = some (.int .i64 f) := hb.cellK; have n2 : w1.cell? ⟨w.heap.size + 1, 0, none⟩ = some (.int .i64 0) := hb.cellK; have n3 : w1.cell? ⟨w.heap.size + 1, 1, none⟩ = some (.int .i64 0) := hb.cellK; have n4 : w1.cell? ⟨w.heap.size + 1, 2, none⟩ = some (.int .i64 0) := hb.cellK; have nz0 : w1.frozen? ⟨w.heap.size + 1, 0, none⟩ = false := hb.frzK; have nz1 : w1.frozen? ⟨w.heap.size + 1, 1, none⟩ = false := hb.frzK; have nz2 : w1.frozen? ⟨w.heap.size + 1, 2, none⟩ = false := hb.frzK; (first | (have nx := hx.trK hb; clear hx) | have nx := hb); clear hb; try clear hs; try clear g0; try clear g1; try clear g2; try clear g3; try clear g4; try clear z0; try clear z1; try clear z2; have hx := nx; clear nx; have hs := ns; clear ns; have g0 := n0; clear n0; have g1 := n1; clear n1; have g2 := n2; clear n2; have g3 := n3; clear n3; have g4 := n4; clear n4; have z0 := nz0; clear nz0; have z1 := nz1; clear nz1; have z2 := nz2; clear nz2) | (go_at_call 61; refine (exponentOnes_any e f hg _).mono ?_; rintro rv w1 ⟨rfl, hb⟩; have ns : w.heap.size + 1 < w1.heap.size := hb.ltK; have n0 : w1.cell? ⟨w.heap.size, 0, none⟩ = some (.int .i64 e) := hb.cellK; have n1 : w1.cell? ⟨w.heap.size, 1, none⟩ = some (.int .i64 f) := hb.cellK; have n2 : w1.cell? ⟨w.heap.size + 1, 0, none⟩ = some (.int .i64 0) := hb.cellK; have n3 : w1.cell? ⟨w.heap.size + 1, 1, none⟩ = some (.int .i64 0) := hb.cellK; have n4 : w1.cell? ⟨w.heap.size + 1, 2, none⟩ = some (.int .i64 0) := hb.cellK; have nz0 : w1.frozen? ⟨w.heap.size + 1, 0, none⟩ = false := hb.frzK; have nz1 : w1.frozen? ⟨w.heap.size + 1, 1, none⟩ = false := hb.frzK; have nz2 : w1.frozen? ⟨w.heap.size + 1, 2, none⟩ = false := hb.frzK; (first | (have nx := hx.trK hb; clear hx) | have nx := hb); clear hb; try clear hs; try clear g0; try clear g1; try clear g2; try clear g3; try clear g4; try clear z0; try clear z1; try clear z2; have hx := nx; clear nx; have hs := ns; clear ns; have g0 := n0; clear n0; have g1 := n1; clear n1; have g2 := n2; clear n2; have g3 := n3; clear n3; have g4 := n4; clear n4; have z0 := nz0; clear nz0; have z1 := nz1; clear nz1; have z2 := nz2; clear nz2) | (go_at_call 62; refine (fractionOnes_any e f hg _).mono ?_; rintro rv w1 ⟨rfl, hb⟩; have ns : w.heap.size + 1 < w1.heap.size := hb.ltK; have n0 : w1.cell? ⟨w.heap.size, 0, none⟩ = some (.int .i64 e) := hb.cellK; have n1 : w1.cell? ⟨w.heap.size, 1, none⟩ = some (.int .i64 f) := hb.cellK; have n2 : w1.cell? ⟨w.heap.size + 1, 0, none⟩ = some (.int .i64 0) := hb.cellK; have n3 : w1.cell? ⟨w.heap.size + 1, 1, none⟩ = some (.int .i64 0) := hb.cellK; have n4 : w1.cell? ⟨w.heap.size + 1, 2, none⟩ = some (.int .i64 0) := hb.cellK; have nz0 : w1.frozen? ⟨w.heap.size + 1, 0, none⟩ = false := hb.frzK; have nz1 : w1.frozen? ⟨w.heap.size + 1, 1, none⟩ = false := hb.frzK; have nz2 : w1.frozen? ⟨w.heap.size + 1, 2, none⟩ = false := hb.frzK; (first | (have nx := hx.trK hb; clear hx) | have nx := hb); clear hb; try clear hs; try clear g0; try clear g1; try clear g2; try clear g3; try clear g4; try clear z0; try clear z1; try clear z2; have hx := nx; clear nx; have hs := ns; clear ns; have g0 := n0; clear n0; have g1 := n1; clear n1; have g2 := n2; clear n2; have g3 := n3; clear n3; have g4 := n4; clear n4; have z0 := nz0; clear nz0; have z1 := nz1; clear nz1; have z2 := nz2; clear nz2)))
  go_wp2
  exact bodyPost_ret (v := .agg #[.int .i64 (p / pw (e + f)), .int .i64 (p % pw (e + f) / pw f), .int .i64 (p % pw f)]) (by simp [results, Try.results52, go_sem, *]) rfl ⟨rfl, Ext.auK⟩
end Go.Proofs.Ytmddlbphanlfhaa

namespace Go.Proofs.Ytmddlbphanlfhaa
open Go Go.RowKit
set_option linter.unusedSimpArgs false
set_option linter.unusedVariables false

theorem sGreatestOf_no (e f : Int) (hg : goodB e f = false) (w : World) : Calls Try.prog 21 #[fmt e f] w fun rv w' => rv = .returned (.tuple #[.int .i64 0, .bool false]) ∧ Ext w w' := by
  go_enter Try.func21, Try.ntmps21
  go_wp2_with (go_at_call 58; refine (fmGood_any e f _).mono ?_; rintro rv w1 ⟨rfl, hb⟩; have ns : w.heap.size < w1.heap.size := hb.ltK; have n0 : w1.cell? ⟨w.heap.size, 0, none⟩ = some (.int .i64 e) := hb.cellK; have n1 : w1.cell? ⟨w.heap.size, 1, none⟩ = some (.int .i64 f) := hb.cellK; (first | (have nx := hx.trK hb; clear hx) | have nx := hb); clear hb; try clear hs; try clear g0; try clear g1; have hx := nx; clear nx; have hs := ns; clear ns; have g0 := n0; clear n0; have g1 := n1; clear n1)
  go_ret2
  exact ⟨rfl, Ext.auK⟩

theorem sGreatestOf_yes (e f : Int) (hg : goodB e f = true) (w : World) : Calls Try.prog 21 #[fmt e f] w fun rv w' => rv = .returned (.tuple #[.int .i64 ((pw e - 1) * pw f - 1), .bool true]) ∧ Ext w w' := by
  obtain ⟨h1, h2, h3, h4⟩ := good_iff.1 hg
  obtain ⟨⟨a1, a2⟩, ⟨b1, b2⟩, ⟨c1, c2⟩, hmul⟩ := pw_facts h1 h2 h3 h4
  have Hmul := Lib.hid hmul; clear hmul
  go_enter Try.func21, Try.ntmps21
  go_wp2_with (first | (go_at_call 58; refine (fmGood_any e f _).mono ?_; rintro rv w1 ⟨rfl, hb⟩; have ns : w.heap.size < w1.heap.size := hb.ltK; have n0 : w1.cell? ⟨w.heap.size, 0, none⟩ = some (.int .i64 e) := hb.cellK; have n1 : w1.cell? ⟨w.heap.size, 1, none⟩ = some (.int .i64 f) := hb.cellK; (first | (have nx := hx.trK hb; clear hx) | have nx := hb); clear hb; try clear hs; try clear g0; try clear g1; have hx := nx; clear nx; have hs := ns; clear ns; have g0 := n0; clear n0; have g1 := n1; clear n1) | (go_at_call 63; refine (fmGreatest_any e f hg _).mono ?_; rintro rv w1 ⟨rfl, hb⟩; have ns : w.heap.size < w1.heap.size := hb.ltK; have n0 : w1.cell? ⟨w.heap.size, 0, none⟩ = some (.int .i64 e) := hb.cellK; have n1 : w1.cell? ⟨w.heap.size, 1, none⟩ = some (.int .i64 f) := hb.cellK; (first | (have nx := hx.trK hb; clear hx) | have nx := hb); clear hb; try clear hs; try clear g0; try clear g1; have hx := nx; clear nx; have hs := ns; clear ns; have g0 := n0; clear n0; have g1 := n1; clear n1))
  go_ret2
  exact ⟨rfl, Ext.auK⟩

theorem sLeastNormal_no (e f : Int) (hg : goodB e f = false) (w : World) : Calls Try.prog 23 #[fmt e f] w fun rv w' => rv = .returned (.tuple #[.int .i64 0, .bool false]) ∧ Ext w w' := by
  go_enter Try.func23, Try.ntmps23
  go_wp2_with (go_at_call 58; refine (fmGood_any e f _).mono ?_; rintro rv w1 ⟨rfl, hb⟩; have ns : w.heap.size < w1.heap.size := hb.ltK; have n0 : w1.cell? ⟨w.heap.size, 0, none⟩ = some (.int .i64 e) := hb.cellK; have n1 : w1.cell? ⟨w.heap.size, 1, none⟩ = some (.int .i64 f) := hb.cellK; (first | (have nx := hx.trK hb; clear hx) | have nx := hb); clear hb; try clear hs; try clear g0; try clear g1; have hx := nx; clear nx; have hs := ns; clear ns; have g0 := n0; clear n0; have g1 := n1; clear n1)
  go_ret2
  exact ⟨rfl, Ext.auK⟩

theorem sLeastNormal_yes (e f : Int) (hg : goodB e f = true) (w : World) : Calls Try.prog 23 #[fmt e f] w fun rv w' => rv = .returned (.tuple #[.int .i64 (pw f), .bool true]) ∧ Ext w w' := by
  obtain ⟨h1, h2, h3, h4⟩ := good_iff.1 hg
  obtain ⟨⟨a1, a2⟩, ⟨b1, b2⟩, ⟨c1, c2⟩, hmul⟩ := pw_facts h1 h2 h3 h4
  have Hmul := Lib.hid hmul; clear hmul
  have k1 := pw_of f
  go_enter Try.func23, Try.ntmps23
  go_wp2_with (first | (go_at_call 58; refine (fmGood_any e f _).mono ?_; rintro rv w1 ⟨rfl, hb⟩; have ns : w.heap.size < w1.heap.size := hb.ltK; have n0 : w1.cell? ⟨w.heap.size, 0, none⟩ = some (.int .i64 e) := hb.cellK; have n1 : w1.cell? ⟨w.heap.size, 1, none⟩ = some (.int .i64 f) := hb.cellK; (first | (have nx := hx.trK hb; clear hx) | have nx := hb); clear hb; try clear hs; try clear g0; try clear g1; have hx := nx; clear nx; have hs := ns; clear ns; have g0 := n0; clear n0; have g1 := n1; clear n1))
  go_ret2
  exact ⟨rfl, Ext.auK⟩
end Go.Proofs.Ytmddlbphanlfhaa

namespace Go.Proofs.Ytmddlbphanlfhaa
open Go Go.RowKit
set_option linter.unusedSimpArgs false
set_option linter.unusedVariables false

theorem fields_facts {e f s x r : Int} (h1 : 2 ≤ e) (h2 : e ≤ 5) (h3 : 1 ≤ f) (h4 : f ≤ 10) (hs0 : 0 ≤ s) (hs1 : s ≤ 1) (hx0 : 0 ≤ x) (hx1 : x < pw e) (hr0 : 0 ≤ r) (hr1 : r < pw f) :
    (0 ≤ x * pw f ∧ x * pw f + r < pw (e + f)) ∧ (0 ≤ s * pw e ∧ s * pw e ≤ 32) ∧ (0 ≤ s * pw (e + f) ∧ s * pw (e + f) ≤ 32768) ∧ (s * pw e + x) * pw f = s * pw (e + f) + x * pw f ∧ 0 ≤ (s * pw e + x) * pw f ∧ (s * pw e + x) * pw f + r ≤ 65535 := by
  obtain ⟨⟨a1, a2⟩, ⟨b1, b2⟩, ⟨c1, c2⟩, hmul⟩ := pw_facts h1 h2 h3 h4
  have k1 : 0 ≤ x * pw f := Int.mul_nonneg hx0 (by omega)
  have k2 : (x + 1) * pw f ≤ pw e * pw f := Int.mul_le_mul_of_nonneg_right (by omega) (by omega)
  have k3 : (x + 1) * pw f = x * pw f + pw f := by rw [Int.add_mul, Int.one_mul]
  have k4 : (s * pw e + x) * pw f = s * pw (e + f) + x * pw f := by rw [Int.add_mul, Int.mul_assoc, ← hmul]
  have hs : s = 0 ∨ s = 1 := by omega
  rcases hs with rfl | rfl <;> simp only [Int.zero_mul, Int.one_mul] at * <;> refine ⟨⟨?_, ?_⟩, ⟨?_, ?_⟩, ⟨?_, ?_⟩, ?_, ?_, ?_⟩ <;> omega

set_option maxHeartbeats 800000 in
theorem patternOf_any (e f s x r : Int) (hg : goodB e f = true) (hs0 : 0 ≤ s) (hs1 : s ≤ 1) (hx0 : 0 ≤ x) (hx1 : x < pw e) (hr0 : 0 ≤ r) (hr1 : r < pw f) (w : World) :
    Calls Try.prog 56 #[fmt e f, .agg #[.int .i64 s, .int .i64 x, .int .i64 r]] w fun rv w' => rv = .returned (.int .i64 (s * pw (e + f) + (x * pw f + r))) ∧ Ext w w' := by
  obtain ⟨h1, h2, h3, h4⟩ := good_iff.1 hg
  obtain ⟨⟨a1, a2⟩, ⟨b1, b2⟩, ⟨c1, c2⟩, hmul⟩ := pw_facts h1 h2 h3 h4
  have Hmul := Lib.hid hmul; clear hmul
  obtain ⟨⟨m1, m2⟩, ⟨m3, m4⟩, ⟨m5, m6⟩, hm, m7, m8⟩ := fields_facts h1 h2 h3 h4 hs0 hs1 hx0 hx1 hr0 hr1
  have Hm := Lib.hid hm; clear hm
  have k1 := pw_of f
  have k2 := pw_of e
  have k3 : bits .or .i64 (s * pw e) x = s * pw e + x := or_pw s x e hs0 hx0 hx1 (by omega)
  have k4 : bits .or .i64 ((s * pw e + x) * pw f) r = (s * pw e + x) * pw f + r := or_pw (s * pw e + x) r f (by omega) hr0 hr1 (by omega)
  go_enter Try.func56, Try.ntmps56
  go_wp2
  go_region_held3 (fun w' => w'.cell? ⟨w.heap.size, 0, none⟩ = some (.int .i64 e) ∧ w'.cell? ⟨w.heap.size, 1, none⟩ = some (.int .i64 f) ∧ w'.cell? ⟨w.heap.size + 1, 0, none⟩ = some (.int .i64 s) ∧ w'.cell? ⟨w.heap.size + 1, 1, none⟩ = some (.int .i64 x) ∧ w'.cell? ⟨w.heap.size + 1, 2, none⟩ = some (.int .i64 r) ∧ w.heap.size + 1 < w'.heap.size) ((refine ⟨?_, ?_, ?_, ?_, ?_, ?_⟩ <;> first | with_reducible assumption | ((rw [cell_setRow_far _ _ _ _ _ (by omega)]); with_reducible assumption) | ((rw [setRow_size]); with_reducible assumption) | ((repeat rw [World.cell?_setCell_far _ _ _ _ (by simp)]); with_reducible assumption) | (simp; done) | (simp [World.setCell]; first | done | omega) | (simp [go_sem, World.cell?_alloc_past, World.cell?_setCell_far, *]; done))) (fail)
  go_wp2
  go_ret
  exact ⟨ret_int (by rw [IntWalk.i64_in (s * pw e) (by omega), k3, IntWalk.i64_in ((s * pw e + x) * pw f) (by omega), k4, Hm.out]; omega), Ext.auK⟩

theorem ret_ib {a b : Int} {c : Bool} (h : a = b) : Ending.returned (.tuple #[.int .i64 a, .bool c]) = .returned (.tuple #[.int .i64 b, .bool c]) := by rw [h]

theorem iGreatestOf_no (e f : Int) (hg : goodB e f = false) (w : World) : Calls Try.prog 20 #[fmt e f] w fun rv w' => rv = .returned (.tuple #[.int .i64 0, .bool false]) ∧ Ext w w' := by
  go_enter Try.func20, Try.ntmps20
  go_wp2_with (go_at_call 54; refine (isFormat_any e f _).mono ?_; rintro rv w1 ⟨rfl, hb⟩; have ns : w.heap.size < w1.heap.size := hb.ltK; have n0 : w1.cell? ⟨w.heap.size, 0, none⟩ = some (.int .i64 e) := hb.cellK; have n1 : w1.cell? ⟨w.heap.size, 1, none⟩ = some (.int .i64 f) := hb.cellK; (first | (have nx := hx.trK hb; clear hx) | have nx := hb); clear hb; try clear hs; try clear g0; try clear g1; have hx := nx; clear nx; have hs := ns; clear ns; have g0 := n0; clear n0; have g1 := n1; clear n1)
  go_ret2
  exact ⟨rfl, Ext.auK⟩

theorem iGreatestOf_yes (e f : Int) (hg : goodB e f = true) (w : World) : Calls Try.prog 20 #[fmt e f] w fun rv w' => rv = .returned (.tuple #[.int .i64 ((pw e - 1) * pw f - 1), .bool true]) ∧ Ext w w' := by
  obtain ⟨h1, h2, h3, h4⟩ := good_iff.1 hg
  obtain ⟨⟨a1, a2⟩, ⟨b1, b2⟩, ⟨c1, c2⟩, hmul⟩ := pw_facts h1 h2 h3 h4
  have Hmul := Lib.hid hmul; clear hmul
  have k1 : IntKind.i64.wrap (pw e - 1 - 1) = pw e - 1 - 1 := IntWalk.i64_in _ (by omega)
  go_enter Try.func20, Try.ntmps20
  go_wp2_with (go_at_call 54; refine (isFormat_any e f _).mono ?_; rintro rv w1 ⟨rfl, hb⟩; have ns : w.heap.size < w1.heap.size := hb.ltK; have n0 : w1.cell? ⟨w.heap.size, 0, none⟩ = some (.int .i64 e) := hb.cellK; have n1 : w1.cell? ⟨w.heap.size, 1, none⟩ = some (.int .i64 f) := hb.cellK; (first | (have nx := hx.trK hb; clear hx) | have nx := hb); clear hb; try clear hs; try clear g0; try clear g1; have hx := nx; clear nx; have hs := ns; clear ns; have g0 := n0; clear n0; have g1 := n1; clear n1)
  go_region_held3 (fun w' => w'.cell? ⟨w.heap.size, 0, none⟩ = some (.int .i64 e) ∧ w'.cell? ⟨w.heap.size, 1, none⟩ = some (.int .i64 f) ∧ w.heap.size < w'.heap.size) ((refine ⟨?_, ?_, ?_⟩ <;> first | with_reducible assumption | ((rw [cell_setRow_far _ _ _ _ _ (by omega)]); with_reducible assumption) | ((rw [setRow_size]); with_reducible assumption) | ((repeat rw [World.cell?_setCell_far _ _ _ _ (by simp)]); with_reducible assumption) | (simp; done) | (simp [World.setCell]; first | done | omega) | (simp [go_sem, World.cell?_alloc_past, World.cell?_setCell_far, *]; done))) ((first | (go_at_call 56; refine (patternOf_any e f _ _ _ hg (by omega) (by omega) (by omega) (by omega) (by omega) (by omega) _).mono ?_; rintro rv w1 ⟨rfl, hb⟩; have ns : w.heap.size < w1.heap.size := hb.ltK; have n0 : w1.cell? ⟨w.heap.size, 0, none⟩ = some (.int .i64 e) := hb.cellK; have n1 : w1.cell? ⟨w.heap.size, 1, none⟩ = some (.int .i64 f) := hb.cellK; (first | (have nx := hx.trK hb; clear hx) | have nx := hb); clear hb; try clear hs; try clear g0; try clear g1; have hx := nx; clear nx; have hs := ns; clear ns; have g0 := n0; clear n0; have g1 := n1; clear n1) | (go_at_call 61; refine (exponentOnes_any e f hg _).mono ?_; rintro rv w1 ⟨rfl, hb⟩; have ns : w.heap.size < w1.heap.size := hb.ltK; have n0 : w1.cell? ⟨w.heap.size, 0, none⟩ = some (.int .i64 e) := hb.cellK; have n1 : w1.cell? ⟨w.heap.size, 1, none⟩ = some (.int .i64 f) := hb.cellK; (first | (have nx := hx.trK hb; clear hx) | have nx := hb); clear hb; try clear hs; try clear g0; try clear g1; have hx := nx; clear nx; have hs := ns; clear ns; have g0 := n0; clear n0; have g1 := n1; clear n1) | (go_at_call 62; refine (fractionOnes_any e f hg _).mono ?_; rintro rv w1 ⟨rfl, hb⟩; have ns : w.heap.size < w1.heap.size := hb.ltK; have n0 : w1.cell? ⟨w.heap.size, 0, none⟩ = some (.int .i64 e) := hb.cellK; have n1 : w1.cell? ⟨w.heap.size, 1, none⟩ = some (.int .i64 f) := hb.cellK; (first | (have nx := hx.trK hb; clear hx) | have nx := hb); clear hb; try clear hs; try clear g0; try clear g1; have hx := nx; clear nx; have hs := ns; clear ns; have g0 := n0; clear n0; have g1 := n1; clear n1)))
  go_wp2
  go_ret2
  exact ⟨ret_ib (by rw [Int.sub_mul _ 1]; omega), Ext.auK⟩

theorem iLeastNormal_no (e f : Int) (hg : goodB e f = false) (w : World) : Calls Try.prog 22 #[fmt e f] w fun rv w' => rv = .returned (.tuple #[.int .i64 0, .bool false]) ∧ Ext w w' := by
  go_enter Try.func22, Try.ntmps22
  go_wp2_with (go_at_call 54; refine (isFormat_any e f _).mono ?_; rintro rv w1 ⟨rfl, hb⟩; have ns : w.heap.size < w1.heap.size := hb.ltK; have n0 : w1.cell? ⟨w.heap.size, 0, none⟩ = some (.int .i64 e) := hb.cellK; have n1 : w1.cell? ⟨w.heap.size, 1, none⟩ = some (.int .i64 f) := hb.cellK; (first | (have nx := hx.trK hb; clear hx) | have nx := hb); clear hb; try clear hs; try clear g0; try clear g1; have hx := nx; clear nx; have hs := ns; clear ns; have g0 := n0; clear n0; have g1 := n1; clear n1)
  go_ret2
  exact ⟨rfl, Ext.auK⟩

theorem iLeastNormal_yes (e f : Int) (hg : goodB e f = true) (w : World) : Calls Try.prog 22 #[fmt e f] w fun rv w' => rv = .returned (.tuple #[.int .i64 (pw f), .bool true]) ∧ Ext w w' := by
  obtain ⟨h1, h2, h3, h4⟩ := good_iff.1 hg
  obtain ⟨⟨a1, a2⟩, ⟨b1, b2⟩, ⟨c1, c2⟩, hmul⟩ := pw_facts h1 h2 h3 h4
  have Hmul := Lib.hid hmul; clear hmul
  go_enter Try.func22, Try.ntmps22
  go_wp2_with (first | (go_at_call 54; refine (isFormat_any e f _).mono ?_; rintro rv w1 ⟨rfl, hb⟩; have ns : w.heap.size < w1.heap.size := hb.ltK; have n0 : w1.cell? ⟨w.heap.size, 0, none⟩ = some (.int .i64 e) := hb.cellK; have n1 : w1.cell? ⟨w.heap.size, 1, none⟩ = some (.int .i64 f) := hb.cellK; (first | (have nx := hx.trK hb; clear hx) | have nx := hb); clear hb; try clear hs; try clear g0; try clear g1; have hx := nx; clear nx; have hs := ns; clear ns; have g0 := n0; clear n0; have g1 := n1; clear n1) | (go_at_call 56; refine (patternOf_any e f _ _ _ hg (by omega) (by omega) (by omega) (by omega) (by omega) (by omega) _).mono ?_; rintro rv w1 ⟨rfl, hb⟩; have ns : w.heap.size < w1.heap.size := hb.ltK; have n0 : w1.cell? ⟨w.heap.size, 0, none⟩ = some (.int .i64 e) := hb.cellK; have n1 : w1.cell? ⟨w.heap.size, 1, none⟩ = some (.int .i64 f) := hb.cellK; (first | (have nx := hx.trK hb; clear hx) | have nx := hb); clear hb; try clear hs; try clear g0; try clear g1; have hx := nx; clear nx; have hs := ns; clear ns; have g0 := n0; clear n0; have g1 := n1; clear n1))
  go_ret2
  exact ⟨ret_ib (by omega), Ext.auK⟩

theorem isPattern_any (e f p : Int) (w : World) : Calls Try.prog 49 #[fmt e f, .int .i64 p] w fun rv w' => rv = .returned (.bool (patB e f p)) ∧ Ext w w' := by
  cases hg : goodB e f
  · go_enter Try.func49, Try.ntmps49
    go_wp2_with (go_at_call 54; refine (isFormat_any e f _).mono ?_; rintro rv w1 ⟨rfl, hb⟩; have ns : w.heap.size < w1.heap.size := hb.ltK; have n0 : w1.cell? ⟨w.heap.size, 0, none⟩ = some (.int .i64 e) := hb.cellK; have n1 : w1.cell? ⟨w.heap.size, 1, none⟩ = some (.int .i64 f) := hb.cellK; (first | (have nx := hx.trK hb; clear hx) | have nx := hb); clear hb; try clear hs; try clear g0; try clear g1; have hx := nx; clear nx; have hs := ns; clear ns; have g0 := n0; clear n0; have g1 := n1; clear n1)
    go_ret
    exact ⟨ret_bool (by simp [patB, hg]), Ext.auK⟩
  · obtain ⟨h1, h2, h3, h4⟩ := good_iff.1 hg
    obtain ⟨⟨a1, a2⟩, ⟨b1, b2⟩, ⟨c1, c2⟩, hmul⟩ := pw_facts h1 h2 h3 h4
    clear hmul
    by_cases hp : 0 ≤ p
    · go_enter Try.func49, Try.ntmps49
      go_wp2_with (first | (go_at_call 54; refine (isFormat_any e f _).mono ?_; rintro rv w1 ⟨rfl, hb⟩; have ns : w.heap.size < w1.heap.size := hb.ltK; have n0 : w1.cell? ⟨w.heap.size, 0, none⟩ = some (.int .i64 e) := hb.cellK; have n1 : w1.cell? ⟨w.heap.size, 1, none⟩ = some (.int .i64 f) := hb.cellK; (first | (have nx := hx.trK hb; clear hx) | have nx := hb); clear hb; try clear hs; try clear g0; try clear g1; have hx := nx; clear nx; have hs := ns; clear ns; have g0 := n0; clear n0; have g1 := n1; clear n1) | (go_at_call 44; refine (signBit_any e f hg _).mono ?_; rintro rv w1 ⟨rfl, hb⟩; have ns : w.heap.size < w1.heap.size := hb.ltK; have n0 : w1.cell? ⟨w.heap.size, 0, none⟩ = some (.int .i64 e) := hb.cellK; have n1 : w1.cell? ⟨w.heap.size, 1, none⟩ = some (.int .i64 f) := hb.cellK; (first | (have nx := hx.trK hb; clear hx) | have nx := hb); clear hb; try clear hs; try clear g0; try clear g1; have hx := nx; clear nx; have hs := ns; clear ns; have g0 := n0; clear n0; have g1 := n1; clear n1))
      go_ret
      exact ⟨ret_bool (by simp [patB, hg, hp]), Ext.auK⟩
    · go_enter Try.func49, Try.ntmps49
      go_wp2_with (first | (go_at_call 54; refine (isFormat_any e f _).mono ?_; rintro rv w1 ⟨rfl, hb⟩; have ns : w.heap.size < w1.heap.size := hb.ltK; have n0 : w1.cell? ⟨w.heap.size, 0, none⟩ = some (.int .i64 e) := hb.cellK; have n1 : w1.cell? ⟨w.heap.size, 1, none⟩ = some (.int .i64 f) := hb.cellK; (first | (have nx := hx.trK hb; clear hx) | have nx := hb); clear hb; try clear hs; try clear g0; try clear g1; have hx := nx; clear nx; have hs := ns; clear ns; have g0 := n0; clear n0; have g1 := n1; clear n1) | (go_at_call 44; refine (signBit_any e f hg _).mono ?_; rintro rv w1 ⟨rfl, hb⟩; have ns : w.heap.size < w1.heap.size := hb.ltK; have n0 : w1.cell? ⟨w.heap.size, 0, none⟩ = some (.int .i64 e) := hb.cellK; have n1 : w1.cell? ⟨w.heap.size, 1, none⟩ = some (.int .i64 f) := hb.cellK; (first | (have nx := hx.trK hb; clear hx) | have nx := hb); clear hb; try clear hs; try clear g0; try clear g1; have hx := nx; clear nx; have hs := ns; clear ns; have g0 := n0; clear n0; have g1 := n1; clear n1))
      go_ret
      exact ⟨ret_bool (by simp [patB, hg]; omega), Ext.auK⟩

theorem fmIs_any (e f p : Int) (w : World) : Calls Try.prog 94 #[fmt e f, .int .i64 p] w fun rv w' => rv = .returned (.bool (patB e f p)) ∧ Ext w w' := by
  cases hg : goodB e f
  · go_enter Try.func94, Try.ntmps94
    go_wp2_with (go_at_call 58; refine (fmGood_any e f _).mono ?_; rintro rv w1 ⟨rfl, hb⟩; have ns : w.heap.size < w1.heap.size := hb.ltK; have n0 : w1.cell? ⟨w.heap.size, 0, none⟩ = some (.int .i64 e) := hb.cellK; have n1 : w1.cell? ⟨w.heap.size, 1, none⟩ = some (.int .i64 f) := hb.cellK; (first | (have nx := hx.trK hb; clear hx) | have nx := hb); clear hb; try clear hs; try clear g0; try clear g1; have hx := nx; clear nx; have hs := ns; clear ns; have g0 := n0; clear n0; have g1 := n1; clear n1)
    go_ret
    exact ⟨ret_bool (by simp [patB, hg]), Ext.auK⟩
  · obtain ⟨h1, h2, h3, h4⟩ := good_iff.1 hg
    obtain ⟨⟨a1, a2⟩, ⟨b1, b2⟩, ⟨c1, c2⟩, hmul⟩ := pw_facts h1 h2 h3 h4
    clear hmul
    have k0 : pw (1 + e + f) = 2 * pw (e + f) := by rw [← pw_succ _ (by omega)]; congr 1; omega
    have k1 : (2 : Int) ^ (1 + e + f).toNat = 2 * pw (e + f) := k0
    clear k0
    go_enter Try.func94, Try.ntmps94
    go_wp2_with (first | (go_at_call 58; refine (fmGood_any e f _).mono ?_; rintro rv w1 ⟨rfl, hb⟩; have ns : w.heap.size < w1.heap.size := hb.ltK; have n0 : w1.cell? ⟨w.heap.size, 0, none⟩ = some (.int .i64 e) := hb.cellK; have n1 : w1.cell? ⟨w.heap.size, 1, none⟩ = some (.int .i64 f) := hb.cellK; (first | (have nx := hx.trK hb; clear hx) | have nx := hb); clear hb; try clear hs; try clear g0; try clear g1; have hx := nx; clear nx; have hs := ns; clear ns; have g0 := n0; clear n0; have g1 := n1; clear n1) | (go_at_call 101; refine (fmWidth_any e f hg _).mono ?_; rintro rv w1 ⟨rfl, hb⟩; have ns : w.heap.size < w1.heap.size := hb.ltK; have n0 : w1.cell? ⟨w.heap.size, 0, none⟩ = some (.int .i64 e) := hb.cellK; have n1 : w1.cell? ⟨w.heap.size, 1, none⟩ = some (.int .i64 f) := hb.cellK; (first | (have nx := hx.trK hb; clear hx) | have nx := hb); clear hb; try clear hs; try clear g0; try clear g1; have hx := nx; clear nx; have hs := ns; clear ns; have g0 := n0; clear n0; have g1 := n1; clear n1) | (go_at_call 59; refine (l1In_any _ _ _ _).mono ?_; rintro rv w1 ⟨rfl, rfl⟩))
    go_ret
    exact ⟨ret_bool (by rw [Bool.eq_iff_iff]; simp [patB, hg]; omega), Ext.auK⟩
end Go.Proofs.Ytmddlbphanlfhaa

namespace Go.Proofs.Ytmddlbphanlfhaa
open Go Go.RowKit
set_option linter.unusedSimpArgs false
set_option linter.unusedVariables false

theorem field_bd (e f p : Int) (hg : patB e f p = true) : (0 ≤ p / pw (e + f) ∧ p / pw (e + f) ≤ 1) ∧ (0 ≤ p % pw (e + f) ∧ p % pw (e + f) < pw (e + f)) ∧ (0 ≤ p % pw (e + f) / pw f ∧ p % pw (e + f) / pw f < pw e) ∧ (0 ≤ p % pw f ∧ p % pw f < pw f) ∧ p = p / pw (e + f) * pw (e + f) + p % pw (e + f) := by
  obtain ⟨hg0, hp0, hp1⟩ := pat_iff.1 hg
  obtain ⟨h1, h2, h3, h4⟩ := good_iff.1 hg0
  obtain ⟨⟨a1, a2⟩, ⟨b1, b2⟩, ⟨c1, c2⟩, hmul⟩ := pw_facts h1 h2 h3 h4
  have Hmul := Lib.hid hmul; clear hmul
  have q1 := Int.emod_nonneg p (show pw (e + f) ≠ 0 by omega)
  have q2 := Int.emod_lt_of_pos p (show 0 < pw (e + f) by omega)
  refine ⟨⟨Int.ediv_nonneg hp0 (by omega), ?_⟩, ⟨q1, q2⟩, ⟨Int.ediv_nonneg q1 (by omega), ?_⟩, ⟨Int.emod_nonneg _ (by omega), Int.emod_lt_of_pos _ (by omega)⟩, ?_⟩
  · have := Int.ediv_lt_of_lt_mul (show 0 < pw (e + f) by omega) (show p < 2 * pw (e + f) from hp1); omega
  · exact Int.ediv_lt_of_lt_mul (by omega) (by rw [← Hmul.out]; exact q2)
  · have := Int.mul_ediv_add_emod p (pw (e + f)); rw [Int.mul_comm]; omega

theorem fmNegate_any (e f p : Int) (hg : patB e f p = true) (w : World) : Calls Try.prog 43 #[fmt e f, .int .i64 p] w fun rv w' => rv = .returned (.int .i64 ((1 - p / pw (e + f)) * pw (e + f) + p % pw (e + f))) ∧ Ext w w' := by
  obtain ⟨hg0, hp0, hp1⟩ := pat_iff.1 hg
  obtain ⟨h1, h2, h3, h4⟩ := good_iff.1 hg0
  obtain ⟨⟨a1, a2⟩, ⟨b1, b2⟩, ⟨c1, c2⟩, hmul⟩ := pw_facts h1 h2 h3 h4
  have Hmul := Lib.hid hmul; clear hmul
  obtain ⟨⟨s0, s1⟩, ⟨z0, z1⟩, ⟨x0, x1⟩, ⟨r0, r1⟩, hsum⟩ := field_bd e f p hg
  have Hsum := Lib.hid hsum; clear hsum
  have k1 : IntKind.i64.wrap (1 - p / pw (e + f)) = 1 - p / pw (e + f) := IntWalk.i64_in _ (by omega)
  go_enter Try.func43, Try.ntmps43
  go_wp2_with fail
  go_region_held3 (fun w' => w'.cell? ⟨w.heap.size, 0, none⟩ = some (.int .i64 e) ∧ w'.cell? ⟨w.heap.size, 1, none⟩ = some (.int .i64 f) ∧ w.heap.size < w'.heap.size) ((refine ⟨?_, ?_, ?_⟩ <;> first | with_reducible assumption | ((rw [cell_setRow_far _ _ _ _ _ (by omega)]); with_reducible assumption) | ((rw [setRow_size]); with_reducible assumption) | ((repeat rw [World.cell?_setCell_far _ _ _ _ (by simp)]); with_reducible assumption) | (simp; done) | (simp [World.setCell]; first | done | omega) | (simp [go_sem, World.cell?_alloc_past, World.cell?_setCell_far, *]; done))) ((first | (go_at_call 97; refine (fmSign_any e f _ hg0 (by omega) _).mono ?_; rintro rv w1 ⟨rfl, hb⟩; have ns : w.heap.size < w1.heap.size := hb.ltK; have n0 : w1.cell? ⟨w.heap.size, 0, none⟩ = some (.int .i64 e) := hb.cellK; have n1 : w1.cell? ⟨w.heap.size, 1, none⟩ = some (.int .i64 f) := hb.cellK; (first | (have nx := hx.trK hb; clear hx) | have nx := hb); clear hb; try clear hs; try clear g0; try clear g1; have hx := nx; clear nx; have hs := ns; clear ns; have g0 := n0; clear n0; have g1 := n1; clear n1) | (go_at_call 50; refine (fmSize_any e f _ hg0 (by omega) _).mono ?_; rintro rv w1 ⟨rfl, hb⟩; have ns : w.heap.size < w1.heap.size := hb.ltK; have n0 : w1.cell? ⟨w.heap.size, 0, none⟩ = some (.int .i64 e) := hb.cellK; have n1 : w1.cell? ⟨w.heap.size, 1, none⟩ = some (.int .i64 f) := hb.cellK; (first | (have nx := hx.trK hb; clear hx) | have nx := hb); clear hb; try clear hs; try clear g0; try clear g1; have hx := nx; clear nx; have hs := ns; clear ns; have g0 := n0; clear n0; have g1 := n1; clear n1) | (go_at_call 67; refine (fmOf_any e f _ _ hg0 (by omega) (by omega) (by omega) (by omega) _).mono ?_; rintro rv w1 ⟨rfl, hb⟩; have ns : w.heap.size < w1.heap.size := hb.ltK; have n0 : w1.cell? ⟨w.heap.size, 0, none⟩ = some (.int .i64 e) := hb.cellK; have n1 : w1.cell? ⟨w.heap.size, 1, none⟩ = some (.int .i64 f) := hb.cellK; (first | (have nx := hx.trK hb; clear hx) | have nx := hb); clear hb; try clear hs; try clear g0; try clear g1; have hx := nx; clear nx; have hs := ns; clear ns; have g0 := n0; clear n0; have g1 := n1; clear n1)))
  go_wp2
  go_ret
  exact ⟨rfl, Ext.auK⟩

theorem iNegateOf_no (e f p : Int) (hg : patB e f p = false) (w : World) : Calls Try.prog 15 #[fmt e f, .int .i64 p] w fun rv w' => rv = .returned (.tuple #[.int .i64 0, .bool false]) ∧ Ext w w' := by
  go_enter Try.func15, Try.ntmps15
  go_wp2_with (go_at_call 49; refine (isPattern_any e f _ _).mono ?_; rintro rv w1 ⟨rfl, hb⟩; have ns : w.heap.size < w1.heap.size := hb.ltK; have n0 : w1.cell? ⟨w.heap.size, 0, none⟩ = some (.int .i64 e) := hb.cellK; have n1 : w1.cell? ⟨w.heap.size, 1, none⟩ = some (.int .i64 f) := hb.cellK; (first | (have nx := hx.trK hb; clear hx) | have nx := hb); clear hb; try clear hs; try clear g0; try clear g1; have hx := nx; clear nx; have hs := ns; clear ns; have g0 := n0; clear n0; have g1 := n1; clear n1)
  go_ret2
  exact ⟨rfl, Ext.auK⟩

theorem iNegateOf_yes (e f p : Int) (hg : patB e f p = true) (w : World) : Calls Try.prog 15 #[fmt e f, .int .i64 p] w fun rv w' => rv = .returned (.tuple #[.int .i64 ((1 - p / pw (e + f)) * pw (e + f) + p % pw (e + f)), .bool true]) ∧ Ext w w' := by
  obtain ⟨hg0, hp0, hp1⟩ := pat_iff.1 hg
  obtain ⟨h1, h2, h3, h4⟩ := good_iff.1 hg0
  obtain ⟨⟨a1, a2⟩, ⟨b1, b2⟩, ⟨c1, c2⟩, hmul⟩ := pw_facts h1 h2 h3 h4
  have Hmul := Lib.hid hmul; clear hmul
  have k1 : bits .xor .i64 p (pw (e + f)) = (1 - p / pw (e + f)) * pw (e + f) + p % pw (e + f) := xor_pw p (e + f) hp0 hp1 (by omega)
  go_enter Try.func15, Try.ntmps15
  go_wp2_with (first | (go_at_call 49; refine (isPattern_any e f _ _).mono ?_; rintro rv w1 ⟨rfl, hb⟩; have ns : w.heap.size < w1.heap.size := hb.ltK; have n0 : w1.cell? ⟨w.heap.size, 0, none⟩ = some (.int .i64 e) := hb.cellK; have n1 : w1.cell? ⟨w.heap.size, 1, none⟩ = some (.int .i64 f) := hb.cellK; (first | (have nx := hx.trK hb; clear hx) | have nx := hb); clear hb; try clear hs; try clear g0; try clear g1; have hx := nx; clear nx; have hs := ns; clear ns; have g0 := n0; clear n0; have g1 := n1; clear n1) | (go_at_call 44; refine (signBit_any e f hg0 _).mono ?_; rintro rv w1 ⟨rfl, hb⟩; have ns : w.heap.size < w1.heap.size := hb.ltK; have n0 : w1.cell? ⟨w.heap.size, 0, none⟩ = some (.int .i64 e) := hb.cellK; have n1 : w1.cell? ⟨w.heap.size, 1, none⟩ = some (.int .i64 f) := hb.cellK; (first | (have nx := hx.trK hb; clear hx) | have nx := hb); clear hb; try clear hs; try clear g0; try clear g1; have hx := nx; clear nx; have hs := ns; clear ns; have g0 := n0; clear n0; have g1 := n1; clear n1))
  go_ret2
  exact ⟨rfl, Ext.auK⟩
end Go.Proofs.Ytmddlbphanlfhaa

namespace Go.Proofs.Ytmddlbphanlfhaa
open Go Go.RowKit
set_option linter.unusedSimpArgs false
set_option linter.unusedVariables false

abbrev shp (s x r o : Int) : Value := .agg #[.int .i64 s, .int .i64 x, .int .i64 r, .int .i64 o]

abbrev fld (s x r : Int) : Value := .agg #[.int .i64 s, .int .i64 x, .int .i64 r]

theorem eqFields (a b c a' b' c' : Int) (w : World) : (Op.equalIn 10000 44 (.agg #[.int .i64 a, .int .i64 b, .int .i64 c]) (.agg #[.int .i64 a', .int .i64 b', .int .i64 c'])).run Try.prog w = .ok (a == a' && (b == b' && c == c')) w := by
  have u3 := Try.underlying3
  have a3 := Try.isAgg3
  have z3 := Try.sizeOf3
  rw [show (10000 : Nat) = 9999 + 1 from rfl, Op.equalIn]
  simp only [Sem.run_bind, run_underlying Try.underlying44, Result.andThen_ok]
  simp only [Std.Legacy.Range.forIn_eq_forIn_range', Std.Legacy.Range.size, Nat.sub_zero, Nat.add_sub_cancel, Nat.div_one, List.range'_succ, List.range'_zero, List.forIn_cons, List.forIn_nil]
  go_simp
  by_cases h1 : a = a' <;> by_cases h2 : b = b' <;> by_cases h3 : c = c' <;> simp [h1, h2, h3]

theorem buildShape (a b c d : Int) (w : World) : (Instr.build 46 #[(0, .agg #[.int .i64 a, .int .i64 b, .int .i64 c]), (1, .int .i64 d)]).run Try.prog w = .ok (.agg #[.int .i64 a, .int .i64 b, .int .i64 c, .int .i64 d]) w := run_build w _ _ _ (by kernel_rfl)

theorem shSize_any (s x r o : Int) (w : World) : Calls Try.prog 93 #[shp s x r o] w fun rv w' => rv = .returned (fld 0 x r) ∧ Ext w w' := by
  go_enter Try.func93, Try.ntmps93
  go_wp2
  refine bodyPost_ret (v := fld 0 x r) (by simp [results, Try.results93, go_sem, *]) rfl ⟨rfl, Ext.auK⟩

theorem shFinite_any (s x r o : Int) (w : World) : Calls Try.prog 51 #[shp s x r o] w fun rv w' => rv = .returned (.bool (decide (x < o))) ∧ Ext w w' := by
  go_enter Try.func51, Try.ntmps51
  go_wp2
  go_ret
  exact ⟨rfl, Ext.auK⟩

theorem shZero_any (s x r o : Int) (w : World) : Calls Try.prog 38 #[shp s x r o] w fun rv w' => rv = .returned (.bool (x == 0 && r == 0)) ∧ Ext w w' := by
  have q := eqFields 0 x r 0 0 0
  go_enter Try.func38, Try.ntmps38
  go_wp2_with (go_at_call 93; refine (shSize_any s x r o _).mono ?_; rintro rv w1 ⟨rfl, hb⟩; have ns : w.heap.size < w1.heap.size := hb.ltK; have n0 : w1.cell? ⟨w.heap.size, 0, none⟩ = some (.int .i64 s) := hb.cellK; have n1 : w1.cell? ⟨w.heap.size, 1, none⟩ = some (.int .i64 x) := hb.cellK; have n2 : w1.cell? ⟨w.heap.size, 2, none⟩ = some (.int .i64 r) := hb.cellK; have n3 : w1.cell? ⟨w.heap.size, 3, none⟩ = some (.int .i64 o) := hb.cellK; (first | (have nx := hx.trK hb; clear hx) | have nx := hb); clear hb; try clear hs; try clear g0; try clear g1; try clear g2; try clear g3; have hx := nx; clear nx; have hs := ns; clear ns; have g0 := n0; clear n0; have g1 := n1; clear n1; have g2 := n2; clear n2; have g3 := n3; clear n3)
  go_ret
  exact ⟨ret_bool (by simp), Ext.auK⟩

theorem shInfinite_any (s x r o : Int) (w : World) : Calls Try.prog 39 #[shp s x r o] w fun rv w' => rv = .returned (.bool (x == o && r == 0)) ∧ Ext w w' := by
  have q := eqFields 0 x r 0 o 0
  go_enter Try.func39, Try.ntmps39
  go_wp2_with fail
  go_region_held3 (fun w' => w'.cell? ⟨w.heap.size, 0, none⟩ = some (.int .i64 s) ∧ w'.cell? ⟨w.heap.size, 1, none⟩ = some (.int .i64 x) ∧ w'.cell? ⟨w.heap.size, 2, none⟩ = some (.int .i64 r) ∧ w'.cell? ⟨w.heap.size, 3, none⟩ = some (.int .i64 o) ∧ w.heap.size < w'.heap.size) ((refine ⟨?_, ?_, ?_, ?_, ?_⟩ <;> first | with_reducible assumption | ((rw [cell_setRow_far _ _ _ _ _ (by omega)]); with_reducible assumption) | ((rw [setRow_size]); with_reducible assumption) | ((repeat rw [World.cell?_setCell_far _ _ _ _ (by simp)]); with_reducible assumption) | (simp; done) | (simp [World.setCell]; first | done | omega) | (simp [go_sem, World.cell?_alloc_past, World.cell?_setCell_far, *]; done))) ((first | (go_at_call 93; refine (shSize_any s x r o _).mono ?_; rintro rv w1 ⟨rfl, hb⟩; have ns : w.heap.size < w1.heap.size := hb.ltK; have n0 : w1.cell? ⟨w.heap.size, 0, none⟩ = some (.int .i64 s) := hb.cellK; have n1 : w1.cell? ⟨w.heap.size, 1, none⟩ = some (.int .i64 x) := hb.cellK; have n2 : w1.cell? ⟨w.heap.size, 2, none⟩ = some (.int .i64 r) := hb.cellK; have n3 : w1.cell? ⟨w.heap.size, 3, none⟩ = some (.int .i64 o) := hb.cellK; (first | (have nx := hx.trK hb; clear hx) | have nx := hb); clear hb; try clear hs; try clear g0; try clear g1; try clear g2; try clear g3; have hx := nx; clear nx; have hs := ns; clear ns; have g0 := n0; clear n0; have g1 := n1; clear n1; have g2 := n2; clear n2; have g3 := n3; clear n3)))
  go_wp2
  go_ret
  exact ⟨ret_bool (by simp), Ext.auK⟩
end Go.Proofs.Ytmddlbphanlfhaa

namespace Go.Proofs.Ytmddlbphanlfhaa
open Go Go.RowKit
set_option linter.unusedSimpArgs false
set_option linter.unusedVariables false

set_option maxHeartbeats 16000000 in
theorem shapeOf_any (e f p : Int) (hg : goodB e f = true) (hp : 0 ≤ p) (hp2 : p ≤ 65535) (w : World) : Calls Try.prog 37 #[fmt e f, .int .i64 p] w fun rv w' => rv = .returned (shp (p / pw (e + f)) (p % pw (e + f) / pw f) (p % pw f) (pw e - 1)) ∧ Ext w w' := by
  have hi : (Try.prog.info? 46).map (·.size) = some 4 := by kernel_rfl
  have bl := buildShape (p / pw (e + f)) (p % pw (e + f) / pw f) (p % pw f) (pw e - 1)
  go_enter Try.func37, Try.ntmps37
  go_wp2_with fail
  go_region_held3 (fun w' => w'.cell? ⟨w.heap.size, 0, none⟩ = some (.int .i64 e) ∧ w'.cell? ⟨w.heap.size, 1, none⟩ = some (.int .i64 f) ∧ w.heap.size + 1 < w'.heap.size) ((refine ⟨?_, ?_, ?_⟩ <;> first | with_reducible assumption | ((rw [cell_setRow_far _ _ _ _ _ (by omega)]); with_reducible assumption) | ((rw [setRow_size]); with_reducible assumption) | ((repeat rw [World.cell?_setCell_far _ _ _ _ (by simp)]); with_reducible assumption) | (simp; done) | (simp [World.setCell]; first | done | omega) | (simp [go_sem, World.cell?_alloc_past, World.cell?_setCell_far, *]; done))) ((first | (go_at_call 52; refine (fieldsOf_any e f _ hg hp hp2 _).mono ?_; rintro rv w1 ⟨rfl, hb⟩; have ns : w.heap.size + 1 < w1.heap.size := hb.ltK; have n0 : w1.cell? ⟨w.heap.size, 0, none⟩ = some (.int .i64 e) := hb.cellK; have n1 : w1.cell? ⟨w.heap.size, 1, none⟩ = some (.int .i64 f) := hb.cellK; have n2 : w1.cell? ⟨w.heap.size + 1, 0, none⟩ = some (.int .i64 0) := hb.cellK; have n3 : w1.cell? ⟨w.heap.size + 1, 1, none⟩ = some (.int .i64 0) := hb.cellK; have n4 : w1.cell? ⟨w.heap.size + 1, 2, none⟩ = some (.int .i64 0) := hb.cellK; have n5 : w1.cell? ⟨w.heap.size + 1, 3, none⟩ = some (.int .i64 0) := hb.cellK; have nz0 : w1.frozen? ⟨w.heap.size + 1, 0, none⟩ = false := hb.frzK; have nz1 : w1.frozen? ⟨w.heap.size + 1, 1, none⟩ = false := hb.frzK; have nz2 : w1.frozen? ⟨w.heap.size + 1, 2, none⟩ = false := hb.frzK; have nz3 : w1.frozen? ⟨w.heap.size + 1, 3, none⟩ = false := hb.frzK; (first | (have nx := hx.trK hb; clear hx) | have nx := hb); clear hb; try clear hs; try clear g0; try clear g1; try clear g2; try clear g3; try clear g4; try clear g5; try clear z0; try clear z1; try clear z2; try clear z3; have hx := nx; clear nx; have hs := ns; clear ns; have g0 := n0; clear n0; have g1 := n1; clear n1; have g2 := n2; clear n2; have g3 := n3; clear n3; have g4 := n4; clear n4; have g5 := n5; clear n5; have z0 := nz0; clear nz0; have z1 := nz1; clear nz1; have z2 := nz2; clear nz2; have z3 := nz3; clear nz3) | (go_at_call 61; refine (exponentOnes_any e f hg _).mono ?_; rintro rv w1 ⟨rfl, hb⟩; have ns : w.heap.size + 1 < w1.heap.size := hb.ltK; have n0 : w1.cell? ⟨w.heap.size, 0, none⟩ = some (.int .i64 e) := hb.cellK; have n1 : w1.cell? ⟨w.heap.size, 1, none⟩ = some (.int .i64 f) := hb.cellK; have n2 : w1.cell? ⟨w.heap.size + 1, 0, none⟩ = some (.int .i64 0) := hb.cellK; have n3 : w1.cell? ⟨w.heap.size + 1, 1, none⟩ = some (.int .i64 0) := hb.cellK; have n4 : w1.cell? ⟨w.heap.size + 1, 2, none⟩ = some (.int .i64 0) := hb.cellK; have n5 : w1.cell? ⟨w.heap.size + 1, 3, none⟩ = some (.int .i64 0) := hb.cellK; have nz0 : w1.frozen? ⟨w.heap.size + 1, 0, none⟩ = false := hb.frzK; have nz1 : w1.frozen? ⟨w.heap.size + 1, 1, none⟩ = false := hb.frzK; have nz2 : w1.frozen? ⟨w.heap.size + 1, 2, none⟩ = false := hb.frzK; have nz3 : w1.frozen? ⟨w.heap.size + 1, 3, none⟩ = false := hb.frzK; (first | (have nx := hx.trK hb; clear hx) | have nx := hb); clear hb; try clear hs; try clear g0; try clear g1; try clear g2; try clear g3; try clear g4; try clear g5; try clear z0; try clear z1; try clear z2; try clear z3; have hx := nx; clear nx; have hs := ns; clear ns; have g0 := n0; clear n0; have g1 := n1; clear n1; have g2 := n2; clear n2; have g3 := n3; clear n3; have g4 := n4; clear n4; have g5 := n5; clear n5; have z0 := nz0; clear nz0; have z1 := nz1; clear nz1; have z2 := nz2; clear nz2; have z3 := nz3; clear nz3)))
  go_wp2
  refine bodyPost_ret (v := shp (p / pw (e + f)) (p % pw (e + f) / pw f) (p % pw f) (pw e - 1)) (by simp [results, Try.results37, go_sem, *]) rfl ⟨rfl, Ext.auK⟩
end Go.Proofs.Ytmddlbphanlfhaa

namespace Go.Proofs.Ytmddlbphanlfhaa
open Go Go.RowKit
set_option linter.unusedSimpArgs false
set_option linter.unusedVariables false

theorem shSubnormal_any (s x r o : Int) (w : World) : Calls Try.prog 99 #[shp s x r o] w fun rv w' => rv = .returned (.bool (x == 0 && !(x == 0 && r == 0))) ∧ Ext w w' := by
  by_cases hc : (x == 0) = true
  · go_enter Try.func99, Try.ntmps99
    go_wp2_with (go_at_call 38; refine (shZero_any s x r o _).mono ?_; rintro rv w1 ⟨rfl, hb⟩; have ns : w.heap.size < w1.heap.size := hb.ltK; have n0 : w1.cell? ⟨w.heap.size, 0, none⟩ = some (.int .i64 s) := hb.cellK; have n1 : w1.cell? ⟨w.heap.size, 1, none⟩ = some (.int .i64 x) := hb.cellK; have n2 : w1.cell? ⟨w.heap.size, 2, none⟩ = some (.int .i64 r) := hb.cellK; have n3 : w1.cell? ⟨w.heap.size, 3, none⟩ = some (.int .i64 o) := hb.cellK; (first | (have nx := hx.trK hb; clear hx) | have nx := hb); clear hb; try clear hs; try clear g0; try clear g1; try clear g2; try clear g3; have hx := nx; clear nx; have hs := ns; clear ns; have g0 := n0; clear n0; have g1 := n1; clear n1; have g2 := n2; clear n2; have g3 := n3; clear n3)
    go_ret
    exact ⟨ret_bool (by first | (simp [hc]; done) | (simp; omega)), Ext.auK⟩
  · go_enter Try.func99, Try.ntmps99
    go_wp2_with (go_at_call 38; refine (shZero_any s x r o _).mono ?_; rintro rv w1 ⟨rfl, hb⟩; have ns : w.heap.size < w1.heap.size := hb.ltK; have n0 : w1.cell? ⟨w.heap.size, 0, none⟩ = some (.int .i64 s) := hb.cellK; have n1 : w1.cell? ⟨w.heap.size, 1, none⟩ = some (.int .i64 x) := hb.cellK; have n2 : w1.cell? ⟨w.heap.size, 2, none⟩ = some (.int .i64 r) := hb.cellK; have n3 : w1.cell? ⟨w.heap.size, 3, none⟩ = some (.int .i64 o) := hb.cellK; (first | (have nx := hx.trK hb; clear hx) | have nx := hb); clear hb; try clear hs; try clear g0; try clear g1; try clear g2; try clear g3; have hx := nx; clear nx; have hs := ns; clear ns; have g0 := n0; clear n0; have g1 := n1; clear n1; have g2 := n2; clear n2; have g3 := n3; clear n3)
    go_ret
    exact ⟨ret_bool (by first | (simp [hc]; done) | (simp; omega)), Ext.auK⟩

theorem shNormal_any (s x r o : Int) (w : World) : Calls Try.prog 100 #[shp s x r o] w fun rv w' => rv = .returned (.bool (decide (0 < x) && decide (x < o))) ∧ Ext w w' := by
  by_cases hc : 0 < x
  · go_enter Try.func100, Try.ntmps100
    go_wp2_with (go_at_call 51; refine (shFinite_any s x r o _).mono ?_; rintro rv w1 ⟨rfl, hb⟩; have ns : w.heap.size < w1.heap.size := hb.ltK; have n0 : w1.cell? ⟨w.heap.size, 0, none⟩ = some (.int .i64 s) := hb.cellK; have n1 : w1.cell? ⟨w.heap.size, 1, none⟩ = some (.int .i64 x) := hb.cellK; have n2 : w1.cell? ⟨w.heap.size, 2, none⟩ = some (.int .i64 r) := hb.cellK; have n3 : w1.cell? ⟨w.heap.size, 3, none⟩ = some (.int .i64 o) := hb.cellK; (first | (have nx := hx.trK hb; clear hx) | have nx := hb); clear hb; try clear hs; try clear g0; try clear g1; try clear g2; try clear g3; have hx := nx; clear nx; have hs := ns; clear ns; have g0 := n0; clear n0; have g1 := n1; clear n1; have g2 := n2; clear n2; have g3 := n3; clear n3)
    go_ret
    exact ⟨ret_bool (by first | (simp [hc]; done) | (simp; omega)), Ext.auK⟩
  · go_enter Try.func100, Try.ntmps100
    go_wp2_with (go_at_call 51; refine (shFinite_any s x r o _).mono ?_; rintro rv w1 ⟨rfl, hb⟩; have ns : w.heap.size < w1.heap.size := hb.ltK; have n0 : w1.cell? ⟨w.heap.size, 0, none⟩ = some (.int .i64 s) := hb.cellK; have n1 : w1.cell? ⟨w.heap.size, 1, none⟩ = some (.int .i64 x) := hb.cellK; have n2 : w1.cell? ⟨w.heap.size, 2, none⟩ = some (.int .i64 r) := hb.cellK; have n3 : w1.cell? ⟨w.heap.size, 3, none⟩ = some (.int .i64 o) := hb.cellK; (first | (have nx := hx.trK hb; clear hx) | have nx := hb); clear hb; try clear hs; try clear g0; try clear g1; try clear g2; try clear g3; have hx := nx; clear nx; have hs := ns; clear ns; have g0 := n0; clear n0; have g1 := n1; clear n1; have g2 := n2; clear n2; have g3 := n3; clear n3)
    go_ret
    exact ⟨ret_bool (by first | (simp [hc]; done) | (simp; omega)), Ext.auK⟩

theorem shNumber_any (s x r o : Int) (w : World) : Calls Try.prog 36 #[shp s x r o] w fun rv w' => rv = .returned (.bool (decide (x < o) || (x == o && r == 0))) ∧ Ext w w' := by
  by_cases hc : x < o
  · go_enter Try.func36, Try.ntmps36
    go_wp2_with (first | (go_at_call 51; refine (shFinite_any s x r o _).mono ?_; rintro rv w1 ⟨rfl, hb⟩; have ns : w.heap.size < w1.heap.size := hb.ltK; have n0 : w1.cell? ⟨w.heap.size, 0, none⟩ = some (.int .i64 s) := hb.cellK; have n1 : w1.cell? ⟨w.heap.size, 1, none⟩ = some (.int .i64 x) := hb.cellK; have n2 : w1.cell? ⟨w.heap.size, 2, none⟩ = some (.int .i64 r) := hb.cellK; have n3 : w1.cell? ⟨w.heap.size, 3, none⟩ = some (.int .i64 o) := hb.cellK; (first | (have nx := hx.trK hb; clear hx) | have nx := hb); clear hb; try clear hs; try clear g0; try clear g1; try clear g2; try clear g3; have hx := nx; clear nx; have hs := ns; clear ns; have g0 := n0; clear n0; have g1 := n1; clear n1; have g2 := n2; clear n2; have g3 := n3; clear n3) | (go_at_call 39; refine (shInfinite_any s x r o _).mono ?_; rintro rv w1 ⟨rfl, hb⟩; have ns : w.heap.size < w1.heap.size := hb.ltK; have n0 : w1.cell? ⟨w.heap.size, 0, none⟩ = some (.int .i64 s) := hb.cellK; have n1 : w1.cell? ⟨w.heap.size, 1, none⟩ = some (.int .i64 x) := hb.cellK; have n2 : w1.cell? ⟨w.heap.size, 2, none⟩ = some (.int .i64 r) := hb.cellK; have n3 : w1.cell? ⟨w.heap.size, 3, none⟩ = some (.int .i64 o) := hb.cellK; (first | (have nx := hx.trK hb; clear hx) | have nx := hb); clear hb; try clear hs; try clear g0; try clear g1; try clear g2; try clear g3; have hx := nx; clear nx; have hs := ns; clear ns; have g0 := n0; clear n0; have g1 := n1; clear n1; have g2 := n2; clear n2; have g3 := n3; clear n3))
    go_ret
    exact ⟨ret_bool (by first | (simp [hc]; done) | (simp; omega)), Ext.auK⟩
  · go_enter Try.func36, Try.ntmps36
    go_wp2_with (first | (go_at_call 51; refine (shFinite_any s x r o _).mono ?_; rintro rv w1 ⟨rfl, hb⟩; have ns : w.heap.size < w1.heap.size := hb.ltK; have n0 : w1.cell? ⟨w.heap.size, 0, none⟩ = some (.int .i64 s) := hb.cellK; have n1 : w1.cell? ⟨w.heap.size, 1, none⟩ = some (.int .i64 x) := hb.cellK; have n2 : w1.cell? ⟨w.heap.size, 2, none⟩ = some (.int .i64 r) := hb.cellK; have n3 : w1.cell? ⟨w.heap.size, 3, none⟩ = some (.int .i64 o) := hb.cellK; (first | (have nx := hx.trK hb; clear hx) | have nx := hb); clear hb; try clear hs; try clear g0; try clear g1; try clear g2; try clear g3; have hx := nx; clear nx; have hs := ns; clear ns; have g0 := n0; clear n0; have g1 := n1; clear n1; have g2 := n2; clear n2; have g3 := n3; clear n3) | (go_at_call 39; refine (shInfinite_any s x r o _).mono ?_; rintro rv w1 ⟨rfl, hb⟩; have ns : w.heap.size < w1.heap.size := hb.ltK; have n0 : w1.cell? ⟨w.heap.size, 0, none⟩ = some (.int .i64 s) := hb.cellK; have n1 : w1.cell? ⟨w.heap.size, 1, none⟩ = some (.int .i64 x) := hb.cellK; have n2 : w1.cell? ⟨w.heap.size, 2, none⟩ = some (.int .i64 r) := hb.cellK; have n3 : w1.cell? ⟨w.heap.size, 3, none⟩ = some (.int .i64 o) := hb.cellK; (first | (have nx := hx.trK hb; clear hx) | have nx := hb); clear hb; try clear hs; try clear g0; try clear g1; try clear g2; try clear g3; have hx := nx; clear nx; have hs := ns; clear ns; have g0 := n0; clear n0; have g1 := n1; clear n1; have g2 := n2; clear n2; have g3 := n3; clear n3))
    go_ret
    exact ⟨ret_bool (by first | (simp [hc]; done) | (simp; omega)), Ext.auK⟩
end Go.Proofs.Ytmddlbphanlfhaa

namespace Go.Proofs.Ytmddlbphanlfhaa
open Go Go.RowKit
set_option linter.unusedSimpArgs false
set_option linter.unusedVariables false

theorem hasFinite_any (e f p : Int) (w : World) : Calls Try.prog 35 #[fmt e f, .int .i64 p, .func (.func 51) #[] #[]] w fun rv w' => rv = .returned (.bool (finB e f p)) ∧ Ext w w' := by
  cases hg : patB e f p
  · go_enter Try.func35, Try.ntmps35
    go_wp2_with (go_at_call 49; refine (isPattern_any e f _ _).mono ?_; rintro rv w1 ⟨rfl, hb⟩; have ns : w.heap.size < w1.heap.size := hb.ltK; have n0 : w1.cell? ⟨w.heap.size, 0, none⟩ = some (.int .i64 e) := hb.cellK; have n1 : w1.cell? ⟨w.heap.size, 1, none⟩ = some (.int .i64 f) := hb.cellK; (first | (have nx := hx.trK hb; clear hx) | have nx := hb); clear hb; try clear hs; try clear g0; try clear g1; have hx := nx; clear nx; have hs := ns; clear ns; have g0 := n0; clear n0; have g1 := n1; clear n1)
    go_ret
    exact ⟨ret_bool (by simp [finB, hg]), Ext.auK⟩
  · obtain ⟨hg0, hp0, hp1⟩ := pat_iff.1 hg
    obtain ⟨h1, h2, h3, h4⟩ := good_iff.1 hg0
    obtain ⟨⟨a1, a2⟩, ⟨b1, b2⟩, ⟨c1, c2⟩, hmul⟩ := pw_facts h1 h2 h3 h4
    clear hmul
    go_enter Try.func35, Try.ntmps35
    go_wp2_with (first | (go_at_call 49; refine (isPattern_any e f _ _).mono ?_; rintro rv w1 ⟨rfl, hb⟩; have ns : w.heap.size < w1.heap.size := hb.ltK; have n0 : w1.cell? ⟨w.heap.size, 0, none⟩ = some (.int .i64 e) := hb.cellK; have n1 : w1.cell? ⟨w.heap.size, 1, none⟩ = some (.int .i64 f) := hb.cellK; (first | (have nx := hx.trK hb; clear hx) | have nx := hb); clear hb; try clear hs; try clear g0; try clear g1; have hx := nx; clear nx; have hs := ns; clear ns; have g0 := n0; clear n0; have g1 := n1; clear n1) | (go_at_call 37; refine (shapeOf_any e f _ hg0 (by omega) (by omega) _).mono ?_; rintro rv w1 ⟨rfl, hb⟩; have ns : w.heap.size < w1.heap.size := hb.ltK; have n0 : w1.cell? ⟨w.heap.size, 0, none⟩ = some (.int .i64 e) := hb.cellK; have n1 : w1.cell? ⟨w.heap.size, 1, none⟩ = some (.int .i64 f) := hb.cellK; (first | (have nx := hx.trK hb; clear hx) | have nx := hb); clear hb; try clear hs; try clear g0; try clear g1; have hx := nx; clear nx; have hs := ns; clear ns; have g0 := n0; clear n0; have g1 := n1; clear n1) | (go_at_call 51; refine (shFinite_any _ _ _ _ _).mono ?_; rintro rv w1 ⟨rfl, hb⟩; have ns : w.heap.size < w1.heap.size := hb.ltK; have n0 : w1.cell? ⟨w.heap.size, 0, none⟩ = some (.int .i64 e) := hb.cellK; have n1 : w1.cell? ⟨w.heap.size, 1, none⟩ = some (.int .i64 f) := hb.cellK; (first | (have nx := hx.trK hb; clear hx) | have nx := hb); clear hb; try clear hs; try clear g0; try clear g1; have hx := nx; clear nx; have hs := ns; clear ns; have g0 := n0; clear n0; have g1 := n1; clear n1))
    go_ret
    exact ⟨ret_bool (by simp [finB, hg]), Ext.auK⟩

theorem hasNumber_any (e f p : Int) (w : World) : Calls Try.prog 35 #[fmt e f, .int .i64 p, .func (.func 36) #[] #[]] w fun rv w' => rv = .returned (.bool (numB e f p)) ∧ Ext w w' := by
  cases hg : patB e f p
  · go_enter Try.func35, Try.ntmps35
    go_wp2_with (go_at_call 49; refine (isPattern_any e f _ _).mono ?_; rintro rv w1 ⟨rfl, hb⟩; have ns : w.heap.size < w1.heap.size := hb.ltK; have n0 : w1.cell? ⟨w.heap.size, 0, none⟩ = some (.int .i64 e) := hb.cellK; have n1 : w1.cell? ⟨w.heap.size, 1, none⟩ = some (.int .i64 f) := hb.cellK; (first | (have nx := hx.trK hb; clear hx) | have nx := hb); clear hb; try clear hs; try clear g0; try clear g1; have hx := nx; clear nx; have hs := ns; clear ns; have g0 := n0; clear n0; have g1 := n1; clear n1)
    go_ret
    exact ⟨ret_bool (by simp [numB, hg]), Ext.auK⟩
  · obtain ⟨hg0, hp0, hp1⟩ := pat_iff.1 hg
    obtain ⟨h1, h2, h3, h4⟩ := good_iff.1 hg0
    obtain ⟨⟨a1, a2⟩, ⟨b1, b2⟩, ⟨c1, c2⟩, hmul⟩ := pw_facts h1 h2 h3 h4
    clear hmul
    go_enter Try.func35, Try.ntmps35
    go_wp2_with (first | (go_at_call 49; refine (isPattern_any e f _ _).mono ?_; rintro rv w1 ⟨rfl, hb⟩; have ns : w.heap.size < w1.heap.size := hb.ltK; have n0 : w1.cell? ⟨w.heap.size, 0, none⟩ = some (.int .i64 e) := hb.cellK; have n1 : w1.cell? ⟨w.heap.size, 1, none⟩ = some (.int .i64 f) := hb.cellK; (first | (have nx := hx.trK hb; clear hx) | have nx := hb); clear hb; try clear hs; try clear g0; try clear g1; have hx := nx; clear nx; have hs := ns; clear ns; have g0 := n0; clear n0; have g1 := n1; clear n1) | (go_at_call 37; refine (shapeOf_any e f _ hg0 (by omega) (by omega) _).mono ?_; rintro rv w1 ⟨rfl, hb⟩; have ns : w.heap.size < w1.heap.size := hb.ltK; have n0 : w1.cell? ⟨w.heap.size, 0, none⟩ = some (.int .i64 e) := hb.cellK; have n1 : w1.cell? ⟨w.heap.size, 1, none⟩ = some (.int .i64 f) := hb.cellK; (first | (have nx := hx.trK hb; clear hx) | have nx := hb); clear hb; try clear hs; try clear g0; try clear g1; have hx := nx; clear nx; have hs := ns; clear ns; have g0 := n0; clear n0; have g1 := n1; clear n1) | (go_at_call 36; refine (shNumber_any _ _ _ _ _).mono ?_; rintro rv w1 ⟨rfl, hb⟩; have ns : w.heap.size < w1.heap.size := hb.ltK; have n0 : w1.cell? ⟨w.heap.size, 0, none⟩ = some (.int .i64 e) := hb.cellK; have n1 : w1.cell? ⟨w.heap.size, 1, none⟩ = some (.int .i64 f) := hb.cellK; (first | (have nx := hx.trK hb; clear hx) | have nx := hb); clear hb; try clear hs; try clear g0; try clear g1; have hx := nx; clear nx; have hs := ns; clear ns; have g0 := n0; clear n0; have g1 := n1; clear n1))
    go_ret
    exact ⟨ret_bool (by simp [numB, hg]), Ext.auK⟩

theorem hasZero_any (e f p : Int) (w : World) : Calls Try.prog 35 #[fmt e f, .int .i64 p, .func (.func 38) #[] #[]] w fun rv w' => rv = .returned (.bool (zerB e f p)) ∧ Ext w w' := by
  cases hg : patB e f p
  · go_enter Try.func35, Try.ntmps35
    go_wp2_with (go_at_call 49; refine (isPattern_any e f _ _).mono ?_; rintro rv w1 ⟨rfl, hb⟩; have ns : w.heap.size < w1.heap.size := hb.ltK; have n0 : w1.cell? ⟨w.heap.size, 0, none⟩ = some (.int .i64 e) := hb.cellK; have n1 : w1.cell? ⟨w.heap.size, 1, none⟩ = some (.int .i64 f) := hb.cellK; (first | (have nx := hx.trK hb; clear hx) | have nx := hb); clear hb; try clear hs; try clear g0; try clear g1; have hx := nx; clear nx; have hs := ns; clear ns; have g0 := n0; clear n0; have g1 := n1; clear n1)
    go_ret
    exact ⟨ret_bool (by simp [zerB, hg]), Ext.auK⟩
  · obtain ⟨hg0, hp0, hp1⟩ := pat_iff.1 hg
    obtain ⟨h1, h2, h3, h4⟩ := good_iff.1 hg0
    obtain ⟨⟨a1, a2⟩, ⟨b1, b2⟩, ⟨c1, c2⟩, hmul⟩ := pw_facts h1 h2 h3 h4
    clear hmul
    go_enter Try.func35, Try.ntmps35
    go_wp2_with (first | (go_at_call 49; refine (isPattern_any e f _ _).mono ?_; rintro rv w1 ⟨rfl, hb⟩; have ns : w.heap.size < w1.heap.size := hb.ltK; have n0 : w1.cell? ⟨w.heap.size, 0, none⟩ = some (.int .i64 e) := hb.cellK; have n1 : w1.cell? ⟨w.heap.size, 1, none⟩ = some (.int .i64 f) := hb.cellK; (first | (have nx := hx.trK hb; clear hx) | have nx := hb); clear hb; try clear hs; try clear g0; try clear g1; have hx := nx; clear nx; have hs := ns; clear ns; have g0 := n0; clear n0; have g1 := n1; clear n1) | (go_at_call 37; refine (shapeOf_any e f _ hg0 (by omega) (by omega) _).mono ?_; rintro rv w1 ⟨rfl, hb⟩; have ns : w.heap.size < w1.heap.size := hb.ltK; have n0 : w1.cell? ⟨w.heap.size, 0, none⟩ = some (.int .i64 e) := hb.cellK; have n1 : w1.cell? ⟨w.heap.size, 1, none⟩ = some (.int .i64 f) := hb.cellK; (first | (have nx := hx.trK hb; clear hx) | have nx := hb); clear hb; try clear hs; try clear g0; try clear g1; have hx := nx; clear nx; have hs := ns; clear ns; have g0 := n0; clear n0; have g1 := n1; clear n1) | (go_at_call 38; refine (shZero_any _ _ _ _ _).mono ?_; rintro rv w1 ⟨rfl, hb⟩; have ns : w.heap.size < w1.heap.size := hb.ltK; have n0 : w1.cell? ⟨w.heap.size, 0, none⟩ = some (.int .i64 e) := hb.cellK; have n1 : w1.cell? ⟨w.heap.size, 1, none⟩ = some (.int .i64 f) := hb.cellK; (first | (have nx := hx.trK hb; clear hx) | have nx := hb); clear hb; try clear hs; try clear g0; try clear g1; have hx := nx; clear nx; have hs := ns; clear ns; have g0 := n0; clear n0; have g1 := n1; clear n1))
    go_ret
    exact ⟨ret_bool (by simp [zerB, hg]), Ext.auK⟩
end Go.Proofs.Ytmddlbphanlfhaa

namespace Go.Proofs.Ytmddlbphanlfhaa
open Go Go.RowKit
set_option linter.unusedSimpArgs false
set_option linter.unusedVariables false

/-- The kind of a pattern. -/
def kindV (e f p : Int) : Int := if (p % pw (e + f) / pw f == pw e - 1) = true then (if (p % pw f == 0) = true then 3 else 4) else if 0 < p % pw (e + f) / pw f then 2 else if 0 < p % pw f then 1 else 0

set_option maxHeartbeats 800000 in
theorem fmKind_any (e f p : Int) (hg : patB e f p = true) (w : World) : Calls Try.prog 95 #[fmt e f, .int .i64 p] w fun rv w' => rv = .returned (.int .i64 (kindV e f p)) ∧ Ext w w' := by
  obtain ⟨hg0, hp0, hp1⟩ := pat_iff.1 hg
  obtain ⟨h1, h2, h3, h4⟩ := good_iff.1 hg0
  obtain ⟨⟨a1, a2⟩, ⟨b1, b2⟩, ⟨c1, c2⟩, hmul⟩ := pw_facts h1 h2 h3 h4
  have Hmul := Lib.hid hmul; clear hmul
  obtain ⟨⟨s0, s1⟩, ⟨z0, z1⟩, ⟨x0, x1⟩, ⟨r0, r1⟩, hsum⟩ := field_bd e f p hg
  have Hsum := Lib.hid hsum; clear hsum
  cases c1 : (p % pw (e + f) / pw f == pw e - 1)
  · by_cases c2 : 0 < p % pw (e + f) / pw f
    · go_enter Try.func95, Try.ntmps95
      go_wp2_with fail
      go_region_held3 (fun w' => w'.cell? ⟨w.heap.size, 0, none⟩ = some (.int .i64 e) ∧ w'.cell? ⟨w.heap.size, 1, none⟩ = some (.int .i64 f) ∧ w.heap.size < w'.heap.size) ((refine ⟨?_, ?_, ?_⟩ <;> first | with_reducible assumption | ((rw [cell_setRow_far _ _ _ _ _ (by omega)]); with_reducible assumption) | ((rw [setRow_size]); with_reducible assumption) | ((repeat rw [World.cell?_setCell_far _ _ _ _ (by simp)]); with_reducible assumption) | (simp; done) | (simp [World.setCell]; first | done | omega) | (simp [go_sem, World.cell?_alloc_past, World.cell?_setCell_far, *]; done))) ((first | (go_at_call 106; refine (fmField_any e f _ hg0 (by omega) _).mono ?_; rintro rv w1 ⟨rfl, hb⟩; have ns : w.heap.size < w1.heap.size := hb.ltK; have n0 : w1.cell? ⟨w.heap.size, 0, none⟩ = some (.int .i64 e) := hb.cellK; have n1 : w1.cell? ⟨w.heap.size, 1, none⟩ = some (.int .i64 f) := hb.cellK; (first | (have nx := hx.trK hb; clear hx) | have nx := hb); clear hb; try clear hs; try clear g0; try clear g1; have hx := nx; clear nx; have hs := ns; clear ns; have g0 := n0; clear n0; have g1 := n1; clear n1) | (go_at_call 96; refine (fmOnes_any e f hg0 _).mono ?_; rintro rv w1 ⟨rfl, hb⟩; have ns : w.heap.size < w1.heap.size := hb.ltK; have n0 : w1.cell? ⟨w.heap.size, 0, none⟩ = some (.int .i64 e) := hb.cellK; have n1 : w1.cell? ⟨w.heap.size, 1, none⟩ = some (.int .i64 f) := hb.cellK; (first | (have nx := hx.trK hb; clear hx) | have nx := hb); clear hb; try clear hs; try clear g0; try clear g1; have hx := nx; clear nx; have hs := ns; clear ns; have g0 := n0; clear n0; have g1 := n1; clear n1)))
      go_wp2_with (first | (go_at_call 106; refine (fmField_any e f _ hg0 (by omega) _).mono ?_; rintro rv w1 ⟨rfl, hb⟩; have ns : w.heap.size < w1.heap.size := hb.ltK; have n0 : w1.cell? ⟨w.heap.size, 0, none⟩ = some (.int .i64 e) := hb.cellK; have n1 : w1.cell? ⟨w.heap.size, 1, none⟩ = some (.int .i64 f) := hb.cellK; (first | (have nx := hx.trK hb; clear hx) | have nx := hb); clear hb; try clear hs; try clear g0; try clear g1; have hx := nx; clear nx; have hs := ns; clear ns; have g0 := n0; clear n0; have g1 := n1; clear n1) | (go_at_call 96; refine (fmOnes_any e f hg0 _).mono ?_; rintro rv w1 ⟨rfl, hb⟩; have ns : w.heap.size < w1.heap.size := hb.ltK; have n0 : w1.cell? ⟨w.heap.size, 0, none⟩ = some (.int .i64 e) := hb.cellK; have n1 : w1.cell? ⟨w.heap.size, 1, none⟩ = some (.int .i64 f) := hb.cellK; (first | (have nx := hx.trK hb; clear hx) | have nx := hb); clear hb; try clear hs; try clear g0; try clear g1; have hx := nx; clear nx; have hs := ns; clear ns; have g0 := n0; clear n0; have g1 := n1; clear n1) | (go_at_call 107; refine (fmRest_any e f _ hg0 (by omega) _).mono ?_; rintro rv w1 ⟨rfl, hb⟩; have ns : w.heap.size < w1.heap.size := hb.ltK; have n0 : w1.cell? ⟨w.heap.size, 0, none⟩ = some (.int .i64 e) := hb.cellK; have n1 : w1.cell? ⟨w.heap.size, 1, none⟩ = some (.int .i64 f) := hb.cellK; (first | (have nx := hx.trK hb; clear hx) | have nx := hb); clear hb; try clear hs; try clear g0; try clear g1; have hx := nx; clear nx; have hs := ns; clear ns; have g0 := n0; clear n0; have g1 := n1; clear n1))
      go_ret
      exact ⟨ret_int (by simp only [kindV, c1, c2, Bool.false_eq_true, if_true, if_false] <;> (try rw [if_neg (by omega)]) <;> (try rw [if_neg (by omega)])), Ext.auK⟩
    · by_cases c3 : 0 < p % pw f
      · go_enter Try.func95, Try.ntmps95
        go_wp2_with fail
        go_region_held3 (fun w' => w'.cell? ⟨w.heap.size, 0, none⟩ = some (.int .i64 e) ∧ w'.cell? ⟨w.heap.size, 1, none⟩ = some (.int .i64 f) ∧ w.heap.size < w'.heap.size) ((refine ⟨?_, ?_, ?_⟩ <;> first | with_reducible assumption | ((rw [cell_setRow_far _ _ _ _ _ (by omega)]); with_reducible assumption) | ((rw [setRow_size]); with_reducible assumption) | ((repeat rw [World.cell?_setCell_far _ _ _ _ (by simp)]); with_reducible assumption) | (simp; done) | (simp [World.setCell]; first | done | omega) | (simp [go_sem, World.cell?_alloc_past, World.cell?_setCell_far, *]; done))) ((first | (go_at_call 106; refine (fmField_any e f _ hg0 (by omega) _).mono ?_; rintro rv w1 ⟨rfl, hb⟩; have ns : w.heap.size < w1.heap.size := hb.ltK; have n0 : w1.cell? ⟨w.heap.size, 0, none⟩ = some (.int .i64 e) := hb.cellK; have n1 : w1.cell? ⟨w.heap.size, 1, none⟩ = some (.int .i64 f) := hb.cellK; (first | (have nx := hx.trK hb; clear hx) | have nx := hb); clear hb; try clear hs; try clear g0; try clear g1; have hx := nx; clear nx; have hs := ns; clear ns; have g0 := n0; clear n0; have g1 := n1; clear n1) | (go_at_call 96; refine (fmOnes_any e f hg0 _).mono ?_; rintro rv w1 ⟨rfl, hb⟩; have ns : w.heap.size < w1.heap.size := hb.ltK; have n0 : w1.cell? ⟨w.heap.size, 0, none⟩ = some (.int .i64 e) := hb.cellK; have n1 : w1.cell? ⟨w.heap.size, 1, none⟩ = some (.int .i64 f) := hb.cellK; (first | (have nx := hx.trK hb; clear hx) | have nx := hb); clear hb; try clear hs; try clear g0; try clear g1; have hx := nx; clear nx; have hs := ns; clear ns; have g0 := n0; clear n0; have g1 := n1; clear n1)))
        go_wp2_with (first | (go_at_call 106; refine (fmField_any e f _ hg0 (by omega) _).mono ?_; rintro rv w1 ⟨rfl, hb⟩; have ns : w.heap.size < w1.heap.size := hb.ltK; have n0 : w1.cell? ⟨w.heap.size, 0, none⟩ = some (.int .i64 e) := hb.cellK; have n1 : w1.cell? ⟨w.heap.size, 1, none⟩ = some (.int .i64 f) := hb.cellK; (first | (have nx := hx.trK hb; clear hx) | have nx := hb); clear hb; try clear hs; try clear g0; try clear g1; have hx := nx; clear nx; have hs := ns; clear ns; have g0 := n0; clear n0; have g1 := n1; clear n1) | (go_at_call 96; refine (fmOnes_any e f hg0 _).mono ?_; rintro rv w1 ⟨rfl, hb⟩; have ns : w.heap.size < w1.heap.size := hb.ltK; have n0 : w1.cell? ⟨w.heap.size, 0, none⟩ = some (.int .i64 e) := hb.cellK; have n1 : w1.cell? ⟨w.heap.size, 1, none⟩ = some (.int .i64 f) := hb.cellK; (first | (have nx := hx.trK hb; clear hx) | have nx := hb); clear hb; try clear hs; try clear g0; try clear g1; have hx := nx; clear nx; have hs := ns; clear ns; have g0 := n0; clear n0; have g1 := n1; clear n1) | (go_at_call 107; refine (fmRest_any e f _ hg0 (by omega) _).mono ?_; rintro rv w1 ⟨rfl, hb⟩; have ns : w.heap.size < w1.heap.size := hb.ltK; have n0 : w1.cell? ⟨w.heap.size, 0, none⟩ = some (.int .i64 e) := hb.cellK; have n1 : w1.cell? ⟨w.heap.size, 1, none⟩ = some (.int .i64 f) := hb.cellK; (first | (have nx := hx.trK hb; clear hx) | have nx := hb); clear hb; try clear hs; try clear g0; try clear g1; have hx := nx; clear nx; have hs := ns; clear ns; have g0 := n0; clear n0; have g1 := n1; clear n1))
        go_ret
        exact ⟨ret_int (by simp only [kindV, c1, c2, c3, Bool.false_eq_true, if_true, if_false] <;> (try rw [if_neg (by omega)]) <;> (try rw [if_neg (by omega)])), Ext.auK⟩
      · go_enter Try.func95, Try.ntmps95
        go_wp2_with fail
        go_region_held3 (fun w' => w'.cell? ⟨w.heap.size, 0, none⟩ = some (.int .i64 e) ∧ w'.cell? ⟨w.heap.size, 1, none⟩ = some (.int .i64 f) ∧ w.heap.size < w'.heap.size) ((refine ⟨?_, ?_, ?_⟩ <;> first | with_reducible assumption | ((rw [cell_setRow_far _ _ _ _ _ (by omega)]); with_reducible assumption) | ((rw [setRow_size]); with_reducible assumption) | ((repeat rw [World.cell?_setCell_far _ _ _ _ (by simp)]); with_reducible assumption) | (simp; done) | (simp [World.setCell]; first | done | omega) | (simp [go_sem, World.cell?_alloc_past, World.cell?_setCell_far, *]; done))) ((first | (go_at_call 106; refine (fmField_any e f _ hg0 (by omega) _).mono ?_; rintro rv w1 ⟨rfl, hb⟩; have ns : w.heap.size < w1.heap.size := hb.ltK; have n0 : w1.cell? ⟨w.heap.size, 0, none⟩ = some (.int .i64 e) := hb.cellK; have n1 : w1.cell? ⟨w.heap.size, 1, none⟩ = some (.int .i64 f) := hb.cellK; (first | (have nx := hx.trK hb; clear hx) | have nx := hb); clear hb; try clear hs; try clear g0; try clear g1; have hx := nx; clear nx; have hs := ns; clear ns; have g0 := n0; clear n0; have g1 := n1; clear n1) | (go_at_call 96; refine (fmOnes_any e f hg0 _).mono ?_; rintro rv w1 ⟨rfl, hb⟩; have ns : w.heap.size < w1.heap.size := hb.ltK; have n0 : w1.cell? ⟨w.heap.size, 0, none⟩ = some (.int .i64 e) := hb.cellK; have n1 : w1.cell? ⟨w.heap.size, 1, none⟩ = some (.int .i64 f) := hb.cellK; (first | (have nx := hx.trK hb; clear hx) | have nx := hb); clear hb; try clear hs; try clear g0; try clear g1; have hx := nx; clear nx; have hs := ns; clear ns; have g0 := n0; clear n0; have g1 := n1; clear n1)))
        go_wp2_with (first | (go_at_call 106; refine (fmField_any e f _ hg0 (by omega) _).mono ?_; rintro rv w1 ⟨rfl, hb⟩; have ns : w.heap.size < w1.heap.size := hb.ltK; have n0 : w1.cell? ⟨w.heap.size, 0, none⟩ = some (.int .i64 e) := hb.cellK; have n1 : w1.cell? ⟨w.heap.size, 1, none⟩ = some (.int .i64 f) := hb.cellK; (first | (have nx := hx.trK hb; clear hx) | have nx := hb); clear hb; try clear hs; try clear g0; try clear g1; have hx := nx; clear nx; have hs := ns; clear ns; have g0 := n0; clear n0; have g1 := n1; clear n1) | (go_at_call 96; refine (fmOnes_any e f hg0 _).mono ?_; rintro rv w1 ⟨rfl, hb⟩; have ns : w.heap.size < w1.heap.size := hb.ltK; have n0 : w1.cell? ⟨w.heap.size, 0, none⟩ = some (.int .i64 e) := hb.cellK; have n1 : w1.cell? ⟨w.heap.size, 1, none⟩ = some (.int .i64 f) := hb.cellK; (first | (have nx := hx.trK hb; clear hx) | have nx := hb); clear hb; try clear hs; try clear g0; try clear g1; have hx := nx; clear nx; have hs := ns; clear ns; have g0 := n0; clear n0; have g1 := n1; clear n1) | (go_at_call 107; refine (fmRest_any e f _ hg0 (by omega) _).mono ?_; rintro rv w1 ⟨rfl, hb⟩; have ns : w.heap.size < w1.heap.size := hb.ltK; have n0 : w1.cell? ⟨w.heap.size, 0, none⟩ = some (.int .i64 e) := hb.cellK; have n1 : w1.cell? ⟨w.heap.size, 1, none⟩ = some (.int .i64 f) := hb.cellK; (first | (have nx := hx.trK hb; clear hx) | have nx := hb); clear hb; try clear hs; try clear g0; try clear g1; have hx := nx; clear nx; have hs := ns; clear ns; have g0 := n0; clear n0; have g1 := n1; clear n1))
        go_ret
        exact ⟨ret_int (by simp only [kindV, c1, c2, c3, Bool.false_eq_true, if_true, if_false] <;> (try rw [if_neg (by omega)]) <;> (try rw [if_neg (by omega)])), Ext.auK⟩
  · cases c2 : (p % pw f == 0)
    · go_enter Try.func95, Try.ntmps95
      go_wp2_with fail
      go_region_held3 (fun w' => w'.cell? ⟨w.heap.size, 0, none⟩ = some (.int .i64 e) ∧ w'.cell? ⟨w.heap.size, 1, none⟩ = some (.int .i64 f) ∧ w.heap.size < w'.heap.size) ((refine ⟨?_, ?_, ?_⟩ <;> first | with_reducible assumption | ((rw [cell_setRow_far _ _ _ _ _ (by omega)]); with_reducible assumption) | ((rw [setRow_size]); with_reducible assumption) | ((repeat rw [World.cell?_setCell_far _ _ _ _ (by simp)]); with_reducible assumption) | (simp; done) | (simp [World.setCell]; first | done | omega) | (simp [go_sem, World.cell?_alloc_past, World.cell?_setCell_far, *]; done))) ((first | (go_at_call 106; refine (fmField_any e f _ hg0 (by omega) _).mono ?_; rintro rv w1 ⟨rfl, hb⟩; have ns : w.heap.size < w1.heap.size := hb.ltK; have n0 : w1.cell? ⟨w.heap.size, 0, none⟩ = some (.int .i64 e) := hb.cellK; have n1 : w1.cell? ⟨w.heap.size, 1, none⟩ = some (.int .i64 f) := hb.cellK; (first | (have nx := hx.trK hb; clear hx) | have nx := hb); clear hb; try clear hs; try clear g0; try clear g1; have hx := nx; clear nx; have hs := ns; clear ns; have g0 := n0; clear n0; have g1 := n1; clear n1) | (go_at_call 96; refine (fmOnes_any e f hg0 _).mono ?_; rintro rv w1 ⟨rfl, hb⟩; have ns : w.heap.size < w1.heap.size := hb.ltK; have n0 : w1.cell? ⟨w.heap.size, 0, none⟩ = some (.int .i64 e) := hb.cellK; have n1 : w1.cell? ⟨w.heap.size, 1, none⟩ = some (.int .i64 f) := hb.cellK; (first | (have nx := hx.trK hb; clear hx) | have nx := hb); clear hb; try clear hs; try clear g0; try clear g1; have hx := nx; clear nx; have hs := ns; clear ns; have g0 := n0; clear n0; have g1 := n1; clear n1)))
      go_wp2_with (first | (go_at_call 106; refine (fmField_any e f _ hg0 (by omega) _).mono ?_; rintro rv w1 ⟨rfl, hb⟩; have ns : w.heap.size < w1.heap.size := hb.ltK; have n0 : w1.cell? ⟨w.heap.size, 0, none⟩ = some (.int .i64 e) := hb.cellK; have n1 : w1.cell? ⟨w.heap.size, 1, none⟩ = some (.int .i64 f) := hb.cellK; (first | (have nx := hx.trK hb; clear hx) | have nx := hb); clear hb; try clear hs; try clear g0; try clear g1; have hx := nx; clear nx; have hs := ns; clear ns; have g0 := n0; clear n0; have g1 := n1; clear n1) | (go_at_call 96; refine (fmOnes_any e f hg0 _).mono ?_; rintro rv w1 ⟨rfl, hb⟩; have ns : w.heap.size < w1.heap.size := hb.ltK; have n0 : w1.cell? ⟨w.heap.size, 0, none⟩ = some (.int .i64 e) := hb.cellK; have n1 : w1.cell? ⟨w.heap.size, 1, none⟩ = some (.int .i64 f) := hb.cellK; (first | (have nx := hx.trK hb; clear hx) | have nx := hb); clear hb; try clear hs; try clear g0; try clear g1; have hx := nx; clear nx; have hs := ns; clear ns; have g0 := n0; clear n0; have g1 := n1; clear n1) | (go_at_call 107; refine (fmRest_any e f _ hg0 (by omega) _).mono ?_; rintro rv w1 ⟨rfl, hb⟩; have ns : w.heap.size < w1.heap.size := hb.ltK; have n0 : w1.cell? ⟨w.heap.size, 0, none⟩ = some (.int .i64 e) := hb.cellK; have n1 : w1.cell? ⟨w.heap.size, 1, none⟩ = some (.int .i64 f) := hb.cellK; (first | (have nx := hx.trK hb; clear hx) | have nx := hb); clear hb; try clear hs; try clear g0; try clear g1; have hx := nx; clear nx; have hs := ns; clear ns; have g0 := n0; clear n0; have g1 := n1; clear n1))
      go_ret
      exact ⟨ret_int (by simp only [kindV, c1, c2, Bool.false_eq_true, if_true, if_false] <;> (try rw [if_neg (by omega)]) <;> (try rw [if_neg (by omega)])), Ext.auK⟩
    · go_enter Try.func95, Try.ntmps95
      go_wp2_with fail
      go_region_held3 (fun w' => w'.cell? ⟨w.heap.size, 0, none⟩ = some (.int .i64 e) ∧ w'.cell? ⟨w.heap.size, 1, none⟩ = some (.int .i64 f) ∧ w.heap.size < w'.heap.size) ((refine ⟨?_, ?_, ?_⟩ <;> first | with_reducible assumption | ((rw [cell_setRow_far _ _ _ _ _ (by omega)]); with_reducible assumption) | ((rw [setRow_size]); with_reducible assumption) | ((repeat rw [World.cell?_setCell_far _ _ _ _ (by simp)]); with_reducible assumption) | (simp; done) | (simp [World.setCell]; first | done | omega) | (simp [go_sem, World.cell?_alloc_past, World.cell?_setCell_far, *]; done))) ((first | (go_at_call 106; refine (fmField_any e f _ hg0 (by omega) _).mono ?_; rintro rv w1 ⟨rfl, hb⟩; have ns : w.heap.size < w1.heap.size := hb.ltK; have n0 : w1.cell? ⟨w.heap.size, 0, none⟩ = some (.int .i64 e) := hb.cellK; have n1 : w1.cell? ⟨w.heap.size, 1, none⟩ = some (.int .i64 f) := hb.cellK; (first | (have nx := hx.trK hb; clear hx) | have nx := hb); clear hb; try clear hs; try clear g0; try clear g1; have hx := nx; clear nx; have hs := ns; clear ns; have g0 := n0; clear n0; have g1 := n1; clear n1) | (go_at_call 96; refine (fmOnes_any e f hg0 _).mono ?_; rintro rv w1 ⟨rfl, hb⟩; have ns : w.heap.size < w1.heap.size := hb.ltK; have n0 : w1.cell? ⟨w.heap.size, 0, none⟩ = some (.int .i64 e) := hb.cellK; have n1 : w1.cell? ⟨w.heap.size, 1, none⟩ = some (.int .i64 f) := hb.cellK; (first | (have nx := hx.trK hb; clear hx) | have nx := hb); clear hb; try clear hs; try clear g0; try clear g1; have hx := nx; clear nx; have hs := ns; clear ns; have g0 := n0; clear n0; have g1 := n1; clear n1)))
      go_wp2_with (first | (go_at_call 106; refine (fmField_any e f _ hg0 (by omega) _).mono ?_; rintro rv w1 ⟨rfl, hb⟩; have ns : w.heap.size < w1.heap.size := hb.ltK; have n0 : w1.cell? ⟨w.heap.size, 0, none⟩ = some (.int .i64 e) := hb.cellK; have n1 : w1.cell? ⟨w.heap.size, 1, none⟩ = some (.int .i64 f) := hb.cellK; (first | (have nx := hx.trK hb; clear hx) | have nx := hb); clear hb; try clear hs; try clear g0; try clear g1; have hx := nx; clear nx; have hs := ns; clear ns; have g0 := n0; clear n0; have g1 := n1; clear n1) | (go_at_call 96; refine (fmOnes_any e f hg0 _).mono ?_; rintro rv w1 ⟨rfl, hb⟩; have ns : w.heap.size < w1.heap.size := hb.ltK; have n0 : w1.cell? ⟨w.heap.size, 0, none⟩ = some (.int .i64 e) := hb.cellK; have n1 : w1.cell? ⟨w.heap.size, 1, none⟩ = some (.int .i64 f) := hb.cellK; (first | (have nx := hx.trK hb; clear hx) | have nx := hb); clear hb; try clear hs; try clear g0; try clear g1; have hx := nx; clear nx; have hs := ns; clear ns; have g0 := n0; clear n0; have g1 := n1; clear n1) | (go_at_call 107; refine (fmRest_any e f _ hg0 (by omega) _).mono ?_; rintro rv w1 ⟨rfl, hb⟩; have ns : w.heap.size < w1.heap.size := hb.ltK; have n0 : w1.cell? ⟨w.heap.size, 0, none⟩ = some (.int .i64 e) := hb.cellK; have n1 : w1.cell? ⟨w.heap.size, 1, none⟩ = some (.int .i64 f) := hb.cellK; (first | (have nx := hx.trK hb; clear hx) | have nx := hb); clear hb; try clear hs; try clear g0; try clear g1; have hx := nx; clear nx; have hs := ns; clear ns; have g0 := n0; clear n0; have g1 := n1; clear n1))
      go_ret
      exact ⟨ret_int (by simp only [kindV, c1, c2, Bool.false_eq_true, if_true, if_false] <;> (try rw [if_neg (by omega)]) <;> (try rw [if_neg (by omega)])), Ext.auK⟩

theorem kind_lt (e f p : Int) (hg : patB e f p = true) : decide (kindV e f p < 3) = finB e f p ∧ decide (kindV e f p < 4) = numB e f p := by
  obtain ⟨_, _, ⟨x0, x1⟩, ⟨r0, r1⟩, _⟩ := field_bd e f p hg
  unfold kindV finB numB
  simp only [hg, Bool.true_and]
  by_cases c1 : p % pw (e + f) / pw f = pw e - 1
  · by_cases c2 : p % pw f = 0 <;> simp [c1, c2]
  · have c3 : p % pw (e + f) / pw f < pw e - 1 := by omega
    simp only [beq_iff_eq, c1, if_false, c3]
    constructor
    · split <;> (try split) <;> simp
    · split <;> (try split) <;> simp

theorem fmNumber_any (e f p : Int) (w : World) : Calls Try.prog 40 #[fmt e f, .int .i64 p] w fun rv w' => rv = .returned (.bool (numB e f p)) ∧ Ext w w' := by
  cases hg : patB e f p
  · go_enter Try.func40, Try.ntmps40
    go_wp2_with (go_at_call 94; refine (fmIs_any e f _ _).mono ?_; rintro rv w1 ⟨rfl, hb⟩; have ns : w.heap.size < w1.heap.size := hb.ltK; have n0 : w1.cell? ⟨w.heap.size, 0, none⟩ = some (.int .i64 e) := hb.cellK; have n1 : w1.cell? ⟨w.heap.size, 1, none⟩ = some (.int .i64 f) := hb.cellK; (first | (have nx := hx.trK hb; clear hx) | have nx := hb); clear hb; try clear hs; try clear g0; try clear g1; have hx := nx; clear nx; have hs := ns; clear ns; have g0 := n0; clear n0; have g1 := n1; clear n1)
    go_ret
    exact ⟨ret_bool (by simp [numB, hg]), Ext.auK⟩
  · go_enter Try.func40, Try.ntmps40
    go_wp2_with (first | (go_at_call 94; refine (fmIs_any e f _ _).mono ?_; rintro rv w1 ⟨rfl, hb⟩; have ns : w.heap.size < w1.heap.size := hb.ltK; have n0 : w1.cell? ⟨w.heap.size, 0, none⟩ = some (.int .i64 e) := hb.cellK; have n1 : w1.cell? ⟨w.heap.size, 1, none⟩ = some (.int .i64 f) := hb.cellK; (first | (have nx := hx.trK hb; clear hx) | have nx := hb); clear hb; try clear hs; try clear g0; try clear g1; have hx := nx; clear nx; have hs := ns; clear ns; have g0 := n0; clear n0; have g1 := n1; clear n1) | (go_at_call 95; refine (fmKind_any e f _ hg _).mono ?_; rintro rv w1 ⟨rfl, hb⟩; have ns : w.heap.size < w1.heap.size := hb.ltK; have n0 : w1.cell? ⟨w.heap.size, 0, none⟩ = some (.int .i64 e) := hb.cellK; have n1 : w1.cell? ⟨w.heap.size, 1, none⟩ = some (.int .i64 f) := hb.cellK; (first | (have nx := hx.trK hb; clear hx) | have nx := hb); clear hb; try clear hs; try clear g0; try clear g1; have hx := nx; clear nx; have hs := ns; clear ns; have g0 := n0; clear n0; have g1 := n1; clear n1))
    go_ret
    exact ⟨ret_bool (kind_lt e f p hg).2, Ext.auK⟩

/-- The size of a finite pattern in units. -/
def magV (e f p : Int) : Int := if 0 < p % pw (e + f) / pw f then (p % pw f + pw f) * pw (p % pw (e + f) / pw f - 1) else p % pw f

/-- The value of a finite pattern in units. -/
def unitsV (e f p : Int) : Int := if (p / pw (e + f) == 1) = true then -magV e f p else magV e f p

theorem mag_bd (e f p : Int) (hg : patB e f p = true) : 0 ≤ magV e f p ∧ magV e f p ≤ 4398046511104 := by
  obtain ⟨hg0, hp0, hp1⟩ := pat_iff.1 hg
  obtain ⟨h1, h2, h3, h4⟩ := good_iff.1 hg0
  obtain ⟨⟨a1, a2⟩, ⟨b1, b2⟩, ⟨c1, c2⟩, hmul⟩ := pw_facts h1 h2 h3 h4
  have Hmul := Lib.hid hmul; clear hmul
  obtain ⟨⟨s0, s1⟩, ⟨z0, z1⟩, ⟨x0, x1⟩, ⟨r0, r1⟩, hsum⟩ := field_bd e f p hg
  have Hsum := Lib.hid hsum; clear hsum
  unfold magV
  split
  · have q1 : 1 ≤ pw (p % pw (e + f) / pw f - 1) := pw_pos _
    have q2 : pw (p % pw (e + f) / pw f - 1) ≤ 2147483648 := pw_le 31 _ rfl (by omega)
    exact ⟨Int.mul_nonneg (by omega) (by omega), Int.le_trans (Int.mul_le_mul (show p % pw f + pw f ≤ 2048 by omega) q2 (by omega) (by omega)) (by decide)⟩
  · omega

set_option maxHeartbeats 800000 in
theorem fmUnits_any (e f p : Int) (hg : patB e f p = true) (w : World) : Calls Try.prog 66 #[fmt e f, .int .i64 p] w fun rv w' => rv = .returned (.int .i64 (unitsV e f p)) ∧ Ext w w' := by
  obtain ⟨hg0, hp0, hp1⟩ := pat_iff.1 hg
  obtain ⟨h1, h2, h3, h4⟩ := good_iff.1 hg0
  obtain ⟨⟨a1, a2⟩, ⟨b1, b2⟩, ⟨c1, c2⟩, hmul⟩ := pw_facts h1 h2 h3 h4
  have Hmul := Lib.hid hmul; clear hmul
  obtain ⟨⟨s0, s1⟩, ⟨z0, z1⟩, ⟨x0, x1⟩, ⟨r0, r1⟩, hsum⟩ := field_bd e f p hg
  have Hsum := Lib.hid hsum; clear hsum
  by_cases c1 : 0 < p % pw (e + f) / pw f
  · have q1 : 1 ≤ pw (p % pw (e + f) / pw f - 1) := pw_pos _
    have q2 : pw (p % pw (e + f) / pw f - 1) ≤ 2147483648 := pw_le 31 _ rfl (by omega)
    have q3 : 0 ≤ (p % pw f + pw f) * pw (p % pw (e + f) / pw f - 1) := Int.mul_nonneg (by omega) (by omega)
    have q4 : (p % pw f + pw f) * pw (p % pw (e + f) / pw f - 1) ≤ 2048 * 2147483648 := Int.mul_le_mul (by omega) q2 (by omega) (by omega)
    have k1 := pw_of f
    have k2 : (2 : Int) ^ ((p % pw (e + f) / pw f).toNat - 1) = pw (p % pw (e + f) / pw f - 1) := by unfold pw; congr 1; omega
    cases c2 : (p / pw (e + f) == 1)
    · go_enter Try.func66, Try.ntmps66
      go_wp2_with fail
      go_region_held3 (fun w' => w'.cell? ⟨w.heap.size, 0, none⟩ = some (.int .i64 e) ∧ w'.cell? ⟨w.heap.size, 1, none⟩ = some (.int .i64 f) ∧ w.heap.size < w'.heap.size) ((refine ⟨?_, ?_, ?_⟩ <;> first | with_reducible assumption | ((rw [cell_setRow_far _ _ _ _ _ (by omega)]); with_reducible assumption) | ((rw [setRow_size]); with_reducible assumption) | ((repeat rw [World.cell?_setCell_far _ _ _ _ (by simp)]); with_reducible assumption) | (simp; done) | (simp [World.setCell]; first | done | omega) | (simp [go_sem, World.cell?_alloc_past, World.cell?_setCell_far, *]; done))) ((first | (go_at_call 106; refine (fmField_any e f _ hg0 (by omega) _).mono ?_; rintro rv w1 ⟨rfl, hb⟩; have ns : w.heap.size < w1.heap.size := hb.ltK; have n0 : w1.cell? ⟨w.heap.size, 0, none⟩ = some (.int .i64 e) := hb.cellK; have n1 : w1.cell? ⟨w.heap.size, 1, none⟩ = some (.int .i64 f) := hb.cellK; (first | (have nx := hx.trK hb; clear hx) | have nx := hb); clear hb; try clear hs; try clear g0; try clear g1; have hx := nx; clear nx; have hs := ns; clear ns; have g0 := n0; clear n0; have g1 := n1; clear n1) | (go_at_call 107; refine (fmRest_any e f _ hg0 (by omega) _).mono ?_; rintro rv w1 ⟨rfl, hb⟩; have ns : w.heap.size < w1.heap.size := hb.ltK; have n0 : w1.cell? ⟨w.heap.size, 0, none⟩ = some (.int .i64 e) := hb.cellK; have n1 : w1.cell? ⟨w.heap.size, 1, none⟩ = some (.int .i64 f) := hb.cellK; (first | (have nx := hx.trK hb; clear hx) | have nx := hb); clear hb; try clear hs; try clear g0; try clear g1; have hx := nx; clear nx; have hs := ns; clear ns; have g0 := n0; clear n0; have g1 := n1; clear n1)))
      go_wp2_with (first | (go_at_call 106; refine (fmField_any e f _ hg0 (by omega) _).mono ?_; rintro rv w1 ⟨rfl, hb⟩; have ns : w.heap.size < w1.heap.size := hb.ltK; have n0 : w1.cell? ⟨w.heap.size, 0, none⟩ = some (.int .i64 e) := hb.cellK; have n1 : w1.cell? ⟨w.heap.size, 1, none⟩ = some (.int .i64 f) := hb.cellK; (first | (have nx := hx.trK hb; clear hx) | have nx := hb); clear hb; try clear hs; try clear g0; try clear g1; have hx := nx; clear nx; have hs := ns; clear ns; have g0 := n0; clear n0; have g1 := n1; clear n1) | (go_at_call 107; refine (fmRest_any e f _ hg0 (by omega) _).mono ?_; rintro rv w1 ⟨rfl, hb⟩; have ns : w.heap.size < w1.heap.size := hb.ltK; have n0 : w1.cell? ⟨w.heap.size, 0, none⟩ = some (.int .i64 e) := hb.cellK; have n1 : w1.cell? ⟨w.heap.size, 1, none⟩ = some (.int .i64 f) := hb.cellK; (first | (have nx := hx.trK hb; clear hx) | have nx := hb); clear hb; try clear hs; try clear g0; try clear g1; have hx := nx; clear nx; have hs := ns; clear ns; have g0 := n0; clear n0; have g1 := n1; clear n1) | (go_at_call 97; refine (fmSign_any e f _ hg0 (by omega) _).mono ?_; rintro rv w1 ⟨rfl, hb⟩; have ns : w.heap.size < w1.heap.size := hb.ltK; have n0 : w1.cell? ⟨w.heap.size, 0, none⟩ = some (.int .i64 e) := hb.cellK; have n1 : w1.cell? ⟨w.heap.size, 1, none⟩ = some (.int .i64 f) := hb.cellK; (first | (have nx := hx.trK hb; clear hx) | have nx := hb); clear hb; try clear hs; try clear g0; try clear g1; have hx := nx; clear nx; have hs := ns; clear ns; have g0 := n0; clear n0; have g1 := n1; clear n1))
      go_ret
      exact ⟨ret_int (by simp only [unitsV, magV, c1, c2, Bool.false_eq_true, if_true, if_false] <;> (try rw [if_neg (by omega)]) <;> (try rw [if_neg (by omega)])), Ext.auK⟩
    · go_enter Try.func66, Try.ntmps66
      go_wp2_with fail
      go_region_held3 (fun w' => w'.cell? ⟨w.heap.size, 0, none⟩ = some (.int .i64 e) ∧ w'.cell? ⟨w.heap.size, 1, none⟩ = some (.int .i64 f) ∧ w.heap.size < w'.heap.size) ((refine ⟨?_, ?_, ?_⟩ <;> first | with_reducible assumption | ((rw [cell_setRow_far _ _ _ _ _ (by omega)]); with_reducible assumption) | ((rw [setRow_size]); with_reducible assumption) | ((repeat rw [World.cell?_setCell_far _ _ _ _ (by simp)]); with_reducible assumption) | (simp; done) | (simp [World.setCell]; first | done | omega) | (simp [go_sem, World.cell?_alloc_past, World.cell?_setCell_far, *]; done))) ((first | (go_at_call 106; refine (fmField_any e f _ hg0 (by omega) _).mono ?_; rintro rv w1 ⟨rfl, hb⟩; have ns : w.heap.size < w1.heap.size := hb.ltK; have n0 : w1.cell? ⟨w.heap.size, 0, none⟩ = some (.int .i64 e) := hb.cellK; have n1 : w1.cell? ⟨w.heap.size, 1, none⟩ = some (.int .i64 f) := hb.cellK; (first | (have nx := hx.trK hb; clear hx) | have nx := hb); clear hb; try clear hs; try clear g0; try clear g1; have hx := nx; clear nx; have hs := ns; clear ns; have g0 := n0; clear n0; have g1 := n1; clear n1) | (go_at_call 107; refine (fmRest_any e f _ hg0 (by omega) _).mono ?_; rintro rv w1 ⟨rfl, hb⟩; have ns : w.heap.size < w1.heap.size := hb.ltK; have n0 : w1.cell? ⟨w.heap.size, 0, none⟩ = some (.int .i64 e) := hb.cellK; have n1 : w1.cell? ⟨w.heap.size, 1, none⟩ = some (.int .i64 f) := hb.cellK; (first | (have nx := hx.trK hb; clear hx) | have nx := hb); clear hb; try clear hs; try clear g0; try clear g1; have hx := nx; clear nx; have hs := ns; clear ns; have g0 := n0; clear n0; have g1 := n1; clear n1)))
      go_wp2_with (first | (go_at_call 106; refine (fmField_any e f _ hg0 (by omega) _).mono ?_; rintro rv w1 ⟨rfl, hb⟩; have ns : w.heap.size < w1.heap.size := hb.ltK; have n0 : w1.cell? ⟨w.heap.size, 0, none⟩ = some (.int .i64 e) := hb.cellK; have n1 : w1.cell? ⟨w.heap.size, 1, none⟩ = some (.int .i64 f) := hb.cellK; (first | (have nx := hx.trK hb; clear hx) | have nx := hb); clear hb; try clear hs; try clear g0; try clear g1; have hx := nx; clear nx; have hs := ns; clear ns; have g0 := n0; clear n0; have g1 := n1; clear n1) | (go_at_call 107; refine (fmRest_any e f _ hg0 (by omega) _).mono ?_; rintro rv w1 ⟨rfl, hb⟩; have ns : w.heap.size < w1.heap.size := hb.ltK; have n0 : w1.cell? ⟨w.heap.size, 0, none⟩ = some (.int .i64 e) := hb.cellK; have n1 : w1.cell? ⟨w.heap.size, 1, none⟩ = some (.int .i64 f) := hb.cellK; (first | (have nx := hx.trK hb; clear hx) | have nx := hb); clear hb; try clear hs; try clear g0; try clear g1; have hx := nx; clear nx; have hs := ns; clear ns; have g0 := n0; clear n0; have g1 := n1; clear n1) | (go_at_call 97; refine (fmSign_any e f _ hg0 (by omega) _).mono ?_; rintro rv w1 ⟨rfl, hb⟩; have ns : w.heap.size < w1.heap.size := hb.ltK; have n0 : w1.cell? ⟨w.heap.size, 0, none⟩ = some (.int .i64 e) := hb.cellK; have n1 : w1.cell? ⟨w.heap.size, 1, none⟩ = some (.int .i64 f) := hb.cellK; (first | (have nx := hx.trK hb; clear hx) | have nx := hb); clear hb; try clear hs; try clear g0; try clear g1; have hx := nx; clear nx; have hs := ns; clear ns; have g0 := n0; clear n0; have g1 := n1; clear n1))
      go_ret
      exact ⟨ret_int (by simp only [unitsV, magV, c1, c2, Bool.false_eq_true, if_true, if_false] <;> (try rw [if_neg (by omega)]) <;> (try rw [if_neg (by omega)])), Ext.auK⟩
  · cases c2 : (p / pw (e + f) == 1)
    · go_enter Try.func66, Try.ntmps66
      go_wp2_with fail
      go_region_held3 (fun w' => w'.cell? ⟨w.heap.size, 0, none⟩ = some (.int .i64 e) ∧ w'.cell? ⟨w.heap.size, 1, none⟩ = some (.int .i64 f) ∧ w.heap.size < w'.heap.size) ((refine ⟨?_, ?_, ?_⟩ <;> first | with_reducible assumption | ((rw [cell_setRow_far _ _ _ _ _ (by omega)]); with_reducible assumption) | ((rw [setRow_size]); with_reducible assumption) | ((repeat rw [World.cell?_setCell_far _ _ _ _ (by simp)]); with_reducible assumption) | (simp; done) | (simp [World.setCell]; first | done | omega) | (simp [go_sem, World.cell?_alloc_past, World.cell?_setCell_far, *]; done))) ((first | (go_at_call 106; refine (fmField_any e f _ hg0 (by omega) _).mono ?_; rintro rv w1 ⟨rfl, hb⟩; have ns : w.heap.size < w1.heap.size := hb.ltK; have n0 : w1.cell? ⟨w.heap.size, 0, none⟩ = some (.int .i64 e) := hb.cellK; have n1 : w1.cell? ⟨w.heap.size, 1, none⟩ = some (.int .i64 f) := hb.cellK; (first | (have nx := hx.trK hb; clear hx) | have nx := hb); clear hb; try clear hs; try clear g0; try clear g1; have hx := nx; clear nx; have hs := ns; clear ns; have g0 := n0; clear n0; have g1 := n1; clear n1) | (go_at_call 107; refine (fmRest_any e f _ hg0 (by omega) _).mono ?_; rintro rv w1 ⟨rfl, hb⟩; have ns : w.heap.size < w1.heap.size := hb.ltK; have n0 : w1.cell? ⟨w.heap.size, 0, none⟩ = some (.int .i64 e) := hb.cellK; have n1 : w1.cell? ⟨w.heap.size, 1, none⟩ = some (.int .i64 f) := hb.cellK; (first | (have nx := hx.trK hb; clear hx) | have nx := hb); clear hb; try clear hs; try clear g0; try clear g1; have hx := nx; clear nx; have hs := ns; clear ns; have g0 := n0; clear n0; have g1 := n1; clear n1)))
      go_wp2_with (first | (go_at_call 106; refine (fmField_any e f _ hg0 (by omega) _).mono ?_; rintro rv w1 ⟨rfl, hb⟩; have ns : w.heap.size < w1.heap.size := hb.ltK; have n0 : w1.cell? ⟨w.heap.size, 0, none⟩ = some (.int .i64 e) := hb.cellK; have n1 : w1.cell? ⟨w.heap.size, 1, none⟩ = some (.int .i64 f) := hb.cellK; (first | (have nx := hx.trK hb; clear hx) | have nx := hb); clear hb; try clear hs; try clear g0; try clear g1; have hx := nx; clear nx; have hs := ns; clear ns; have g0 := n0; clear n0; have g1 := n1; clear n1) | (go_at_call 107; refine (fmRest_any e f _ hg0 (by omega) _).mono ?_; rintro rv w1 ⟨rfl, hb⟩; have ns : w.heap.size < w1.heap.size := hb.ltK; have n0 : w1.cell? ⟨w.heap.size, 0, none⟩ = some (.int .i64 e) := hb.cellK; have n1 : w1.cell? ⟨w.heap.size, 1, none⟩ = some (.int .i64 f) := hb.cellK; (first | (have nx := hx.trK hb; clear hx) | have nx := hb); clear hb; try clear hs; try clear g0; try clear g1; have hx := nx; clear nx; have hs := ns; clear ns; have g0 := n0; clear n0; have g1 := n1; clear n1) | (go_at_call 97; refine (fmSign_any e f _ hg0 (by omega) _).mono ?_; rintro rv w1 ⟨rfl, hb⟩; have ns : w.heap.size < w1.heap.size := hb.ltK; have n0 : w1.cell? ⟨w.heap.size, 0, none⟩ = some (.int .i64 e) := hb.cellK; have n1 : w1.cell? ⟨w.heap.size, 1, none⟩ = some (.int .i64 f) := hb.cellK; (first | (have nx := hx.trK hb; clear hx) | have nx := hb); clear hb; try clear hs; try clear g0; try clear g1; have hx := nx; clear nx; have hs := ns; clear ns; have g0 := n0; clear n0; have g1 := n1; clear n1))
      go_ret
      exact ⟨ret_int (by simp only [unitsV, magV, c1, c2, Bool.false_eq_true, if_true, if_false] <;> (try rw [if_neg (by omega)]) <;> (try rw [if_neg (by omega)])), Ext.auK⟩
    · go_enter Try.func66, Try.ntmps66
      go_wp2_with fail
      go_region_held3 (fun w' => w'.cell? ⟨w.heap.size, 0, none⟩ = some (.int .i64 e) ∧ w'.cell? ⟨w.heap.size, 1, none⟩ = some (.int .i64 f) ∧ w.heap.size < w'.heap.size) ((refine ⟨?_, ?_, ?_⟩ <;> first | with_reducible assumption | ((rw [cell_setRow_far _ _ _ _ _ (by omega)]); with_reducible assumption) | ((rw [setRow_size]); with_reducible assumption) | ((repeat rw [World.cell?_setCell_far _ _ _ _ (by simp)]); with_reducible assumption) | (simp; done) | (simp [World.setCell]; first | done | omega) | (simp [go_sem, World.cell?_alloc_past, World.cell?_setCell_far, *]; done))) ((first | (go_at_call 106; refine (fmField_any e f _ hg0 (by omega) _).mono ?_; rintro rv w1 ⟨rfl, hb⟩; have ns : w.heap.size < w1.heap.size := hb.ltK; have n0 : w1.cell? ⟨w.heap.size, 0, none⟩ = some (.int .i64 e) := hb.cellK; have n1 : w1.cell? ⟨w.heap.size, 1, none⟩ = some (.int .i64 f) := hb.cellK; (first | (have nx := hx.trK hb; clear hx) | have nx := hb); clear hb; try clear hs; try clear g0; try clear g1; have hx := nx; clear nx; have hs := ns; clear ns; have g0 := n0; clear n0; have g1 := n1; clear n1) | (go_at_call 107; refine (fmRest_any e f _ hg0 (by omega) _).mono ?_; rintro rv w1 ⟨rfl, hb⟩; have ns : w.heap.size < w1.heap.size := hb.ltK; have n0 : w1.cell? ⟨w.heap.size, 0, none⟩ = some (.int .i64 e) := hb.cellK; have n1 : w1.cell? ⟨w.heap.size, 1, none⟩ = some (.int .i64 f) := hb.cellK; (first | (have nx := hx.trK hb; clear hx) | have nx := hb); clear hb; try clear hs; try clear g0; try clear g1; have hx := nx; clear nx; have hs := ns; clear ns; have g0 := n0; clear n0; have g1 := n1; clear n1)))
      go_wp2_with (first | (go_at_call 106; refine (fmField_any e f _ hg0 (by omega) _).mono ?_; rintro rv w1 ⟨rfl, hb⟩; have ns : w.heap.size < w1.heap.size := hb.ltK; have n0 : w1.cell? ⟨w.heap.size, 0, none⟩ = some (.int .i64 e) := hb.cellK; have n1 : w1.cell? ⟨w.heap.size, 1, none⟩ = some (.int .i64 f) := hb.cellK; (first | (have nx := hx.trK hb; clear hx) | have nx := hb); clear hb; try clear hs; try clear g0; try clear g1; have hx := nx; clear nx; have hs := ns; clear ns; have g0 := n0; clear n0; have g1 := n1; clear n1) | (go_at_call 107; refine (fmRest_any e f _ hg0 (by omega) _).mono ?_; rintro rv w1 ⟨rfl, hb⟩; have ns : w.heap.size < w1.heap.size := hb.ltK; have n0 : w1.cell? ⟨w.heap.size, 0, none⟩ = some (.int .i64 e) := hb.cellK; have n1 : w1.cell? ⟨w.heap.size, 1, none⟩ = some (.int .i64 f) := hb.cellK; (first | (have nx := hx.trK hb; clear hx) | have nx := hb); clear hb; try clear hs; try clear g0; try clear g1; have hx := nx; clear nx; have hs := ns; clear ns; have g0 := n0; clear n0; have g1 := n1; clear n1) | (go_at_call 97; refine (fmSign_any e f _ hg0 (by omega) _).mono ?_; rintro rv w1 ⟨rfl, hb⟩; have ns : w.heap.size < w1.heap.size := hb.ltK; have n0 : w1.cell? ⟨w.heap.size, 0, none⟩ = some (.int .i64 e) := hb.cellK; have n1 : w1.cell? ⟨w.heap.size, 1, none⟩ = some (.int .i64 f) := hb.cellK; (first | (have nx := hx.trK hb; clear hx) | have nx := hb); clear hb; try clear hs; try clear g0; try clear g1; have hx := nx; clear nx; have hs := ns; clear ns; have g0 := n0; clear n0; have g1 := n1; clear n1))
      go_ret
      exact ⟨ret_int (by simp only [unitsV, magV, c1, c2, Bool.false_eq_true, if_true, if_false] <;> (try rw [if_neg (by omega)]) <;> (try rw [if_neg (by omega)])), Ext.auK⟩

theorem fin_pat {e f p : Int} (h : finB e f p = true) : patB e f p = true ∧ p % pw (e + f) / pw f < pw e - 1 := by
  unfold finB at h
  simpa using h

theorem num_pat {e f p : Int} (h : numB e f p = true) : patB e f p = true := by
  unfold numB at h
  cases hp : patB e f p
  · rw [hp] at h; simp at h
  · rfl

/-- The key of a number. -/
def keyV (e f p : Int) : Int := if (p / pw (e + f) == 0) = true then p else -1 - p % pw (e + f)

theorem fmKey_any (e f p : Int) (hg : patB e f p = true) (w : World) : Calls Try.prog 45 #[fmt e f, .int .i64 p] w fun rv w' => rv = .returned (.int .i64 (keyV e f p)) ∧ Ext w w' := by
  obtain ⟨hg0, hp0, hp1⟩ := pat_iff.1 hg
  obtain ⟨h1, h2, h3, h4⟩ := good_iff.1 hg0
  obtain ⟨⟨a1, a2⟩, ⟨b1, b2⟩, ⟨c1, c2⟩, hmul⟩ := pw_facts h1 h2 h3 h4
  have Hmul := Lib.hid hmul; clear hmul
  obtain ⟨⟨s0, s1⟩, ⟨z0, z1⟩, ⟨x0, x1⟩, ⟨r0, r1⟩, hsum⟩ := field_bd e f p hg
  have Hsum := Lib.hid hsum; clear hsum
  cases c1 : (p / pw (e + f) == 0)
  · go_enter Try.func45, Try.ntmps45
    go_wp2_with (first | (go_at_call 97; refine (fmSign_any e f _ hg0 (by omega) _).mono ?_; rintro rv w1 ⟨rfl, hb⟩; have ns : w.heap.size < w1.heap.size := hb.ltK; have n0 : w1.cell? ⟨w.heap.size, 0, none⟩ = some (.int .i64 e) := hb.cellK; have n1 : w1.cell? ⟨w.heap.size, 1, none⟩ = some (.int .i64 f) := hb.cellK; (first | (have nx := hx.trK hb; clear hx) | have nx := hb); clear hb; try clear hs; try clear g0; try clear g1; have hx := nx; clear nx; have hs := ns; clear ns; have g0 := n0; clear n0; have g1 := n1; clear n1) | (go_at_call 50; refine (fmSize_any e f _ hg0 (by omega) _).mono ?_; rintro rv w1 ⟨rfl, hb⟩; have ns : w.heap.size < w1.heap.size := hb.ltK; have n0 : w1.cell? ⟨w.heap.size, 0, none⟩ = some (.int .i64 e) := hb.cellK; have n1 : w1.cell? ⟨w.heap.size, 1, none⟩ = some (.int .i64 f) := hb.cellK; (first | (have nx := hx.trK hb; clear hx) | have nx := hb); clear hb; try clear hs; try clear g0; try clear g1; have hx := nx; clear nx; have hs := ns; clear ns; have g0 := n0; clear n0; have g1 := n1; clear n1))
    go_ret
    exact ⟨ret_int (by simp only [keyV, c1, Bool.false_eq_true, if_true, if_false]), Ext.auK⟩
  · go_enter Try.func45, Try.ntmps45
    go_wp2_with (first | (go_at_call 97; refine (fmSign_any e f _ hg0 (by omega) _).mono ?_; rintro rv w1 ⟨rfl, hb⟩; have ns : w.heap.size < w1.heap.size := hb.ltK; have n0 : w1.cell? ⟨w.heap.size, 0, none⟩ = some (.int .i64 e) := hb.cellK; have n1 : w1.cell? ⟨w.heap.size, 1, none⟩ = some (.int .i64 f) := hb.cellK; (first | (have nx := hx.trK hb; clear hx) | have nx := hb); clear hb; try clear hs; try clear g0; try clear g1; have hx := nx; clear nx; have hs := ns; clear ns; have g0 := n0; clear n0; have g1 := n1; clear n1) | (go_at_call 50; refine (fmSize_any e f _ hg0 (by omega) _).mono ?_; rintro rv w1 ⟨rfl, hb⟩; have ns : w.heap.size < w1.heap.size := hb.ltK; have n0 : w1.cell? ⟨w.heap.size, 0, none⟩ = some (.int .i64 e) := hb.cellK; have n1 : w1.cell? ⟨w.heap.size, 1, none⟩ = some (.int .i64 f) := hb.cellK; (first | (have nx := hx.trK hb; clear hx) | have nx := hb); clear hb; try clear hs; try clear g0; try clear g1; have hx := nx; clear nx; have hs := ns; clear ns; have g0 := n0; clear n0; have g1 := n1; clear n1))
    go_ret
    exact ⟨ret_int (by simp only [keyV, c1, Bool.false_eq_true, if_true, if_false]), Ext.auK⟩

theorem sOrderKey_no (e f p : Int) (hg : numB e f p = false) (w : World) : Calls Try.prog 12 #[fmt e f, .int .i64 p] w fun rv w' => rv = .returned (.tuple #[.int .i64 0, .bool false]) ∧ Ext w w' := by
  go_enter Try.func12, Try.ntmps12
  go_wp2_with (go_at_call 40; refine (fmNumber_any e f _ _).mono ?_; rintro rv w1 ⟨rfl, hb⟩; have ns : w.heap.size < w1.heap.size := hb.ltK; have n0 : w1.cell? ⟨w.heap.size, 0, none⟩ = some (.int .i64 e) := hb.cellK; have n1 : w1.cell? ⟨w.heap.size, 1, none⟩ = some (.int .i64 f) := hb.cellK; (first | (have nx := hx.trK hb; clear hx) | have nx := hb); clear hb; try clear hs; try clear g0; try clear g1; have hx := nx; clear nx; have hs := ns; clear ns; have g0 := n0; clear n0; have g1 := n1; clear n1)
  go_ret2
  exact ⟨rfl, Ext.auK⟩

theorem sOrderKey_yes (e f p : Int) (hg : numB e f p = true) (w : World) : Calls Try.prog 12 #[fmt e f, .int .i64 p] w fun rv w' => rv = .returned (.tuple #[.int .i64 (keyV e f p), .bool true]) ∧ Ext w w' := by
  go_enter Try.func12, Try.ntmps12
  go_wp2_with (first | (go_at_call 40; refine (fmNumber_any e f _ _).mono ?_; rintro rv w1 ⟨rfl, hb⟩; have ns : w.heap.size < w1.heap.size := hb.ltK; have n0 : w1.cell? ⟨w.heap.size, 0, none⟩ = some (.int .i64 e) := hb.cellK; have n1 : w1.cell? ⟨w.heap.size, 1, none⟩ = some (.int .i64 f) := hb.cellK; (first | (have nx := hx.trK hb; clear hx) | have nx := hb); clear hb; try clear hs; try clear g0; try clear g1; have hx := nx; clear nx; have hs := ns; clear ns; have g0 := n0; clear n0; have g1 := n1; clear n1) | (go_at_call 45; refine (fmKey_any e f _ (num_pat hg) _).mono ?_; rintro rv w1 ⟨rfl, hb⟩; have ns : w.heap.size < w1.heap.size := hb.ltK; have n0 : w1.cell? ⟨w.heap.size, 0, none⟩ = some (.int .i64 e) := hb.cellK; have n1 : w1.cell? ⟨w.heap.size, 1, none⟩ = some (.int .i64 f) := hb.cellK; (first | (have nx := hx.trK hb; clear hx) | have nx := hb); clear hb; try clear hs; try clear g0; try clear g1; have hx := nx; clear nx; have hs := ns; clear ns; have g0 := n0; clear n0; have g1 := n1; clear n1))
  go_ret2
  exact ⟨rfl, Ext.auK⟩

theorem l1Most_any (a b : Int) (w : World) : Calls Try.prog 105 #[.int .i64 a, .int .i64 b] w fun rv w' => rv = .returned (.int .i64 (max a b)) ∧ w = w' := by
  by_cases h : b < a
  · go_enter Try.func105, Try.ntmps105
    go_wp2
    go_ret
    exact ⟨ret_int (by omega), rfl⟩
  · go_enter Try.func105, Try.ntmps105
    go_wp2
    go_ret
    exact ⟨ret_int (by omega), rfl⟩
end Go.Proofs.Ytmddlbphanlfhaa

namespace Go.Proofs.Ytmddlbphanlfhaa
open Go Go.RowKit
set_option linter.unusedSimpArgs false
set_option linter.unusedVariables false

theorem iOrderKey_no (e f p : Int) (hg : numB e f p = false) (w : World) : Calls Try.prog 11 #[fmt e f, .int .i64 p] w fun rv w' => rv = .returned (.tuple #[.int .i64 0, .bool false]) ∧ Ext w w' := by
  go_enter Try.func11, Try.ntmps11
  go_wp2_with (go_at_call 35; refine (hasNumber_any e f _ _).mono ?_; rintro rv w1 ⟨rfl, hb⟩; have ns : w.heap.size < w1.heap.size := hb.ltK; have n0 : w1.cell? ⟨w.heap.size, 0, none⟩ = some (.int .i64 e) := hb.cellK; have n1 : w1.cell? ⟨w.heap.size, 1, none⟩ = some (.int .i64 f) := hb.cellK; (first | (have nx := hx.trK hb; clear hx) | have nx := hb); clear hb; try clear hs; try clear g0; try clear g1; have hx := nx; clear nx; have hs := ns; clear ns; have g0 := n0; clear n0; have g1 := n1; clear n1)
  go_ret2
  exact ⟨rfl, Ext.auK⟩

theorem sign_lt (e f p : Int) (hp : patB e f p = true) : (p / pw (e + f) = 0 ∧ p < pw (e + f)) ∨ (p / pw (e + f) = 1 ∧ pw (e + f) ≤ p) := by
  obtain ⟨⟨s0, s1⟩, ⟨z0, z1⟩, _, _, hsum⟩ := field_bd e f p hp
  have hs : p / pw (e + f) = 0 ∨ p / pw (e + f) = 1 := by omega
  rcases hs with h | h
  · rw [h] at hsum; exact .inl ⟨h, by omega⟩
  · rw [h] at hsum; exact .inr ⟨h, by omega⟩

theorem iOrderKey_yes (e f p : Int) (hg : numB e f p = true) (w : World) : Calls Try.prog 11 #[fmt e f, .int .i64 p] w fun rv w' => rv = .returned (.tuple #[.int .i64 (keyV e f p), .bool true]) ∧ Ext w w' := by
  have hp := num_pat hg
  obtain ⟨hg0, hp0, hp1⟩ := pat_iff.1 hp
  obtain ⟨h1, h2, h3, h4⟩ := good_iff.1 hg0
  obtain ⟨⟨a1, a2⟩, ⟨b1, b2⟩, ⟨c1, c2⟩, hmul⟩ := pw_facts h1 h2 h3 h4
  clear hmul
  obtain ⟨⟨s0, s1⟩, ⟨z0, z1⟩, ⟨x0, x1⟩, ⟨r0, r1⟩, hsum⟩ := field_bd e f p hp
  have Hsum := Lib.hid hsum; clear hsum
  rcases sign_lt e f p hp with ⟨l1, l2⟩ | ⟨l1, l2⟩
  · have hk : keyV e f p = p := by unfold keyV; rw [l1]; rfl
    have Hk := Lib.hid hk; clear hk l1
    go_enter Try.func11, Try.ntmps11
    go_wp2_with (first | (go_at_call 35; refine (hasNumber_any e f _ _).mono ?_; rintro rv w1 ⟨rfl, hb⟩; have ns : w.heap.size < w1.heap.size := hb.ltK; have n0 : w1.cell? ⟨w.heap.size, 0, none⟩ = some (.int .i64 e) := hb.cellK; have n1 : w1.cell? ⟨w.heap.size, 1, none⟩ = some (.int .i64 f) := hb.cellK; (first | (have nx := hx.trK hb; clear hx) | have nx := hb); clear hb; try clear hs; try clear g0; try clear g1; have hx := nx; clear nx; have hs := ns; clear ns; have g0 := n0; clear n0; have g1 := n1; clear n1) | (go_at_call 44; refine (signBit_any e f hg0 _).mono ?_; rintro rv w1 ⟨rfl, hb⟩; have ns : w.heap.size < w1.heap.size := hb.ltK; have n0 : w1.cell? ⟨w.heap.size, 0, none⟩ = some (.int .i64 e) := hb.cellK; have n1 : w1.cell? ⟨w.heap.size, 1, none⟩ = some (.int .i64 f) := hb.cellK; (first | (have nx := hx.trK hb; clear hx) | have nx := hb); clear hb; try clear hs; try clear g0; try clear g1; have hx := nx; clear nx; have hs := ns; clear ns; have g0 := n0; clear n0; have g1 := n1; clear n1))
    go_ret2
    exact ⟨ret_ib Hk.out.symm, Ext.auK⟩
  · have hk : keyV e f p = -1 - p % pw (e + f) := by unfold keyV; rw [l1]; rfl
    have Hk := Lib.hid hk; clear hk l1
    go_enter Try.func11, Try.ntmps11
    go_wp2_with (first | (go_at_call 35; refine (hasNumber_any e f _ _).mono ?_; rintro rv w1 ⟨rfl, hb⟩; have ns : w.heap.size < w1.heap.size := hb.ltK; have n0 : w1.cell? ⟨w.heap.size, 0, none⟩ = some (.int .i64 e) := hb.cellK; have n1 : w1.cell? ⟨w.heap.size, 1, none⟩ = some (.int .i64 f) := hb.cellK; (first | (have nx := hx.trK hb; clear hx) | have nx := hb); clear hb; try clear hs; try clear g0; try clear g1; have hx := nx; clear nx; have hs := ns; clear ns; have g0 := n0; clear n0; have g1 := n1; clear n1) | (go_at_call 44; refine (signBit_any e f hg0 _).mono ?_; rintro rv w1 ⟨rfl, hb⟩; have ns : w.heap.size < w1.heap.size := hb.ltK; have n0 : w1.cell? ⟨w.heap.size, 0, none⟩ = some (.int .i64 e) := hb.cellK; have n1 : w1.cell? ⟨w.heap.size, 1, none⟩ = some (.int .i64 f) := hb.cellK; (first | (have nx := hx.trK hb; clear hx) | have nx := hb); clear hb; try clear hs; try clear g0; try clear g1; have hx := nx; clear nx; have hs := ns; clear ns; have g0 := n0; clear n0; have g1 := n1; clear n1))
    go_ret2
    exact ⟨ret_ib Hk.out.symm, Ext.auK⟩
end Go.Proofs.Ytmddlbphanlfhaa

namespace Go.Proofs.Ytmddlbphanlfhaa
open Go Go.RowKit
set_option linter.unusedSimpArgs false
set_option linter.unusedVariables false

theorem zer_iff (e f p : Int) (hp : patB e f p = true) : zerB e f p = (p % pw (e + f) == 0) := by
  obtain ⟨hg0, _, _⟩ := pat_iff.1 hp
  obtain ⟨h1, h2, h3, h4⟩ := good_iff.1 hg0
  obtain ⟨_, _, ⟨c1, c2⟩, hmul⟩ := pw_facts h1 h2 h3 h4
  obtain ⟨_, ⟨z0, z1⟩, ⟨x0, x1⟩, ⟨r0, r1⟩, _⟩ := field_bd e f p hp
  have hr : p % pw f = p % pw (e + f) % pw f := (Int.emod_emod_of_dvd p ⟨pw e, by rw [hmul, Int.mul_comm]⟩).symm
  unfold zerB
  rw [hp, Bool.true_and, Bool.eq_iff_iff]
  simp only [Bool.and_eq_true, beq_iff_eq]
  constructor
  · rintro ⟨a, b⟩
    have := Int.mul_ediv_add_emod (p % pw (e + f)) (pw f)
    rw [a, ← hr, b] at this
    omega
  · intro a
    rw [hr, a]
    exact ⟨Int.zero_ediv _, Int.zero_emod _⟩

/-- The key of a number, the same for both zeros. -/
def vkV (e f p : Int) : Int := if (p % pw (e + f) == 0) = true then 0 else keyV e f p

theorem valueKey_no (e f p : Int) (hg : numB e f p = false) (w : World) : Calls Try.prog 46 #[fmt e f, .int .i64 p] w fun rv w' => rv = .returned (.tuple #[.int .i64 0, .bool false]) ∧ Ext w w' := by
  have hz : zerB e f p = false := by
    cases hp : patB e f p
    · simp [zerB, hp]
    · cases hz : zerB e f p
      · rfl
      · have hx : numB e f p = true := by
          obtain ⟨hg0, _, _⟩ := pat_iff.1 hp
          obtain ⟨h1, h2, h3, h4⟩ := good_iff.1 hg0
          obtain ⟨_, ⟨b1, b2⟩, _, _⟩ := pw_facts h1 h2 h3 h4
          unfold zerB at hz
          rw [hp] at hz
          simp only [Bool.true_and, Bool.and_eq_true, beq_iff_eq] at hz
          unfold numB
          rw [hp, hz.1]
          simp only [Bool.true_and, Bool.or_eq_true, decide_eq_true_eq]
          exact .inl (by omega)
        rw [hg] at hx; cases hx
  go_enter Try.func46, Try.ntmps46
  go_wp2_with (first | (go_at_call 35; refine (hasZero_any e f _ _).mono ?_; rintro rv w1 ⟨rfl, hb⟩; have ns : w.heap.size < w1.heap.size := hb.ltK; have n0 : w1.cell? ⟨w.heap.size, 0, none⟩ = some (.int .i64 e) := hb.cellK; have n1 : w1.cell? ⟨w.heap.size, 1, none⟩ = some (.int .i64 f) := hb.cellK; (first | (have nx := hx.trK hb; clear hx) | have nx := hb); clear hb; try clear hs; try clear g0; try clear g1; have hx := nx; clear nx; have hs := ns; clear ns; have g0 := n0; clear n0; have g1 := n1; clear n1) | (go_at_call 11; refine (iOrderKey_no e f _ hg _).mono ?_; rintro rv w1 ⟨rfl, hb⟩; have ns : w.heap.size < w1.heap.size := hb.ltK; have n0 : w1.cell? ⟨w.heap.size, 0, none⟩ = some (.int .i64 e) := hb.cellK; have n1 : w1.cell? ⟨w.heap.size, 1, none⟩ = some (.int .i64 f) := hb.cellK; (first | (have nx := hx.trK hb; clear hx) | have nx := hb); clear hb; try clear hs; try clear g0; try clear g1; have hx := nx; clear nx; have hs := ns; clear ns; have g0 := n0; clear n0; have g1 := n1; clear n1))
  go_ret2
  exact ⟨rfl, Ext.auK⟩

theorem valueKey_yes (e f p : Int) (hg : numB e f p = true) (w : World) : Calls Try.prog 46 #[fmt e f, .int .i64 p] w fun rv w' => rv = .returned (.tuple #[.int .i64 (vkV e f p), .bool true]) ∧ Ext w w' := by
  have hq := zer_iff e f p (num_pat hg)
  cases hz : zerB e f p
  · have hk : vkV e f p = keyV e f p := by unfold vkV; rw [← hq, hz]; rfl
    have Hk := Lib.hid hk; clear hk hq
    go_enter Try.func46, Try.ntmps46
    go_wp2_with (first | (go_at_call 35; refine (hasZero_any e f _ _).mono ?_; rintro rv w1 ⟨rfl, hb⟩; have ns : w.heap.size < w1.heap.size := hb.ltK; have n0 : w1.cell? ⟨w.heap.size, 0, none⟩ = some (.int .i64 e) := hb.cellK; have n1 : w1.cell? ⟨w.heap.size, 1, none⟩ = some (.int .i64 f) := hb.cellK; (first | (have nx := hx.trK hb; clear hx) | have nx := hb); clear hb; try clear hs; try clear g0; try clear g1; have hx := nx; clear nx; have hs := ns; clear ns; have g0 := n0; clear n0; have g1 := n1; clear n1) | (go_at_call 11; refine (iOrderKey_yes e f _ hg _).mono ?_; rintro rv w1 ⟨rfl, hb⟩; have ns : w.heap.size < w1.heap.size := hb.ltK; have n0 : w1.cell? ⟨w.heap.size, 0, none⟩ = some (.int .i64 e) := hb.cellK; have n1 : w1.cell? ⟨w.heap.size, 1, none⟩ = some (.int .i64 f) := hb.cellK; (first | (have nx := hx.trK hb; clear hx) | have nx := hb); clear hb; try clear hs; try clear g0; try clear g1; have hx := nx; clear nx; have hs := ns; clear ns; have g0 := n0; clear n0; have g1 := n1; clear n1))
    go_ret2
    exact ⟨ret_ib Hk.out.symm, Ext.auK⟩
  · have hk : vkV e f p = 0 := by unfold vkV; rw [← hq, hz]; rfl
    have Hk := Lib.hid hk; clear hk hq
    go_enter Try.func46, Try.ntmps46
    go_wp2_with (first | (go_at_call 35; refine (hasZero_any e f _ _).mono ?_; rintro rv w1 ⟨rfl, hb⟩; have ns : w.heap.size < w1.heap.size := hb.ltK; have n0 : w1.cell? ⟨w.heap.size, 0, none⟩ = some (.int .i64 e) := hb.cellK; have n1 : w1.cell? ⟨w.heap.size, 1, none⟩ = some (.int .i64 f) := hb.cellK; (first | (have nx := hx.trK hb; clear hx) | have nx := hb); clear hb; try clear hs; try clear g0; try clear g1; have hx := nx; clear nx; have hs := ns; clear ns; have g0 := n0; clear n0; have g1 := n1; clear n1) | (go_at_call 11; refine (iOrderKey_yes e f _ hg _).mono ?_; rintro rv w1 ⟨rfl, hb⟩; have ns : w.heap.size < w1.heap.size := hb.ltK; have n0 : w1.cell? ⟨w.heap.size, 0, none⟩ = some (.int .i64 e) := hb.cellK; have n1 : w1.cell? ⟨w.heap.size, 1, none⟩ = some (.int .i64 f) := hb.cellK; (first | (have nx := hx.trK hb; clear hx) | have nx := hb); clear hb; try clear hs; try clear g0; try clear g1; have hx := nx; clear nx; have hs := ns; clear ns; have g0 := n0; clear n0; have g1 := n1; clear n1))
    go_ret2
    exact ⟨ret_ib Hk.out.symm, Ext.auK⟩

theorem isNaN_any (x : Int) (w : World) : Calls Try.prog 98 #[.int .i64 x] w fun rv w' => rv = .returned (.bool false) ∧ w = w' := by
  go_enter Try.func98, Try.ntmps98
  go_wp2
  go_ret
  exact ⟨rfl, rfl⟩

/-- The sign of a difference. -/
def cmpV (x y : Int) : Int := if x < y then -1 else if y < x then 1 else 0

theorem compare_any (x y : Int) (w : World) : Calls Try.prog 47 #[.int .i64 x, .int .i64 y] w fun rv w' => rv = .returned (.int .i64 (cmpV x y)) ∧ w = w' := by
  by_cases h1 : x < y
  · have hk : cmpV x y = -1 := by unfold cmpV; rw [if_pos h1]
    have Hk := Lib.hid hk; clear hk
    go_enter Try.func47, Try.ntmps47
    go_wp2_with (go_at_call 98; refine (isNaN_any _ _).mono ?_; rintro rv w1 ⟨rfl, rfl⟩)
    go_ret
    exact ⟨ret_int Hk.out.symm, rfl⟩
  · by_cases h2 : y < x
    · have hk : cmpV x y = 1 := by unfold cmpV; rw [if_neg h1, if_pos h2]
      have Hk := Lib.hid hk; clear hk
      go_enter Try.func47, Try.ntmps47
      go_wp2_with (go_at_call 98; refine (isNaN_any _ _).mono ?_; rintro rv w1 ⟨rfl, rfl⟩)
      go_ret
      exact ⟨ret_int Hk.out.symm, rfl⟩
    · have hk : cmpV x y = 0 := by unfold cmpV; rw [if_neg h1, if_neg h2]
      have Hk := Lib.hid hk; clear hk
      go_enter Try.func47, Try.ntmps47
      go_wp2_with (go_at_call 98; refine (isNaN_any _ _).mono ?_; rintro rv w1 ⟨rfl, rfl⟩)
      go_ret
      exact ⟨ret_int Hk.out.symm, rfl⟩

/-- What comparing answers. -/
def cmpB (e f a b : Int) : Bool := numB e f a && numB e f b

theorem iCompareOf_no (e f a b : Int) (hg : cmpB e f a b = false) (w : World) : Calls Try.prog 13 #[fmt e f, .int .i64 a, .int .i64 b] w fun rv w' => rv = .returned (.tuple #[.int .i64 0, .bool false]) ∧ Ext w w' := by
  cases ha : numB e f a
  · go_enter Try.func13, Try.ntmps13
    go_wp2_with (go_at_call 46; refine (valueKey_no e f a ha _).mono ?_; rintro rv w1 ⟨rfl, hb⟩; have ns : w.heap.size < w1.heap.size := hb.ltK; have n0 : w1.cell? ⟨w.heap.size, 0, none⟩ = some (.int .i64 e) := hb.cellK; have n1 : w1.cell? ⟨w.heap.size, 1, none⟩ = some (.int .i64 f) := hb.cellK; (first | (have nx := hx.trK hb; clear hx) | have nx := hb); clear hb; try clear hs; try clear g0; try clear g1; have hx := nx; clear nx; have hs := ns; clear ns; have g0 := n0; clear n0; have g1 := n1; clear n1)
    go_ret2
    exact ⟨rfl, Ext.auK⟩
  · have hb0 : numB e f b = false := by unfold cmpB at hg; rw [ha] at hg; simpa using hg
    go_enter Try.func13, Try.ntmps13
    go_wp2_with fail
    (go_at_call 46; refine (valueKey_yes e f a ha _).mono ?_; rintro rv w1 ⟨rfl, hb⟩; have ns : w.heap.size < w1.heap.size := hb.ltK; have n0 : w1.cell? ⟨w.heap.size, 0, none⟩ = some (.int .i64 e) := hb.cellK; have n1 : w1.cell? ⟨w.heap.size, 1, none⟩ = some (.int .i64 f) := hb.cellK; (first | (have nx := hx.trK hb; clear hx) | have nx := hb); clear hb; try clear hs; try clear g0; try clear g1; have hx := nx; clear nx; have hs := ns; clear ns; have g0 := n0; clear n0; have g1 := n1; clear n1)
    go_wp2_with fail
    (go_at_call 46; refine (valueKey_no e f b hb0 _).mono ?_; rintro rv w1 ⟨rfl, hb⟩; have ns : w.heap.size < w1.heap.size := hb.ltK; have n0 : w1.cell? ⟨w.heap.size, 0, none⟩ = some (.int .i64 e) := hb.cellK; have n1 : w1.cell? ⟨w.heap.size, 1, none⟩ = some (.int .i64 f) := hb.cellK; (first | (have nx := hx.trK hb; clear hx) | have nx := hb); clear hb; try clear hs; try clear g0; try clear g1; have hx := nx; clear nx; have hs := ns; clear ns; have g0 := n0; clear n0; have g1 := n1; clear n1)
    go_wp2_with fail
    go_ret2
    exact ⟨rfl, Ext.auK⟩

theorem iCompareOf_yes (e f a b : Int) (hg : cmpB e f a b = true) (w : World) : Calls Try.prog 13 #[fmt e f, .int .i64 a, .int .i64 b] w fun rv w' => rv = .returned (.tuple #[.int .i64 (cmpV (vkV e f a) (vkV e f b)), .bool true]) ∧ Ext w w' := by
  obtain ⟨ha, hb0⟩ : numB e f a = true ∧ numB e f b = true := by unfold cmpB at hg; simpa using hg
  go_enter Try.func13, Try.ntmps13
  go_wp2_with fail
  (go_at_call 46; refine (valueKey_yes e f a ha _).mono ?_; rintro rv w1 ⟨rfl, hb⟩; have ns : w.heap.size < w1.heap.size := hb.ltK; have n0 : w1.cell? ⟨w.heap.size, 0, none⟩ = some (.int .i64 e) := hb.cellK; have n1 : w1.cell? ⟨w.heap.size, 1, none⟩ = some (.int .i64 f) := hb.cellK; (first | (have nx := hx.trK hb; clear hx) | have nx := hb); clear hb; try clear hs; try clear g0; try clear g1; have hx := nx; clear nx; have hs := ns; clear ns; have g0 := n0; clear n0; have g1 := n1; clear n1)
  go_wp2_with fail
  (go_at_call 46; refine (valueKey_yes e f b hb0 _).mono ?_; rintro rv w1 ⟨rfl, hb⟩; have ns : w.heap.size < w1.heap.size := hb.ltK; have n0 : w1.cell? ⟨w.heap.size, 0, none⟩ = some (.int .i64 e) := hb.cellK; have n1 : w1.cell? ⟨w.heap.size, 1, none⟩ = some (.int .i64 f) := hb.cellK; (first | (have nx := hx.trK hb; clear hx) | have nx := hb); clear hb; try clear hs; try clear g0; try clear g1; have hx := nx; clear nx; have hs := ns; clear ns; have g0 := n0; clear n0; have g1 := n1; clear n1)
  go_wp2_with (go_at_call 47; refine (compare_any _ _ _).mono ?_; rintro rv w1 ⟨rfl, rfl⟩)
  go_ret2
  exact ⟨rfl, Ext.auK⟩
end Go.Proofs.Ytmddlbphanlfhaa

namespace Go.Proofs.Ytmddlbphanlfhaa
open Go Go.RowKit
set_option linter.unusedSimpArgs false
set_option linter.unusedVariables false

/-- There is a next pattern upwards. -/
def upB (e f p : Int) : Bool := numB e f p && !(p == (pw e - 1) * pw f)

/-- The next pattern upwards. -/
def upV (e f p : Int) : Int := if (p % pw (e + f) == 0) = true then 1 else if (p / pw (e + f) == 0) = true then p + 1 else p - 1

theorem fmInfinite_any (e f : Int) (hg : goodB e f = true) (w : World) : Calls Try.prog 41 #[fmt e f] w fun rv w' => rv = .returned (.int .i64 ((pw e - 1) * pw f)) ∧ Ext w w' := by
  obtain ⟨h1, h2, h3, h4⟩ := good_iff.1 hg
  obtain ⟨⟨a1, a2⟩, ⟨b1, b2⟩, ⟨c1, c2⟩, hmul⟩ := pw_facts h1 h2 h3 h4
  have Hmul := Lib.hid hmul; clear hmul
  have k1 := pw_of f
  have k2 : 0 ≤ (pw e - 1) * pw f := Int.mul_nonneg (by omega) (by omega)
  have k3 : (pw e - 1) * pw f ≤ 31 * 1024 := Int.mul_le_mul (by omega) c2 (by omega) (by omega)
  have k4 : IntKind.i64.wrap ((pw e - 1) * pw f) = (pw e - 1) * pw f := IntWalk.i64_in _ (by omega)
  go_enter Try.func41, Try.ntmps41
  go_wp2_with fail
  go_region_held3 (fun w' => w'.cell? ⟨w.heap.size, 0, none⟩ = some (.int .i64 e) ∧ w'.cell? ⟨w.heap.size, 1, none⟩ = some (.int .i64 f) ∧ w.heap.size < w'.heap.size) ((refine ⟨?_, ?_, ?_⟩ <;> first | with_reducible assumption | ((rw [cell_setRow_far _ _ _ _ _ (by omega)]); with_reducible assumption) | ((rw [setRow_size]); with_reducible assumption) | ((repeat rw [World.cell?_setCell_far _ _ _ _ (by simp)]); with_reducible assumption) | (simp; done) | (simp [World.setCell]; first | done | omega) | (simp [go_sem, World.cell?_alloc_past, World.cell?_setCell_far, *]; done))) ((first | (go_at_call 96; refine (fmOnes_any e f hg _).mono ?_; rintro rv w1 ⟨rfl, hb⟩; have ns : w.heap.size < w1.heap.size := hb.ltK; have n0 : w1.cell? ⟨w.heap.size, 0, none⟩ = some (.int .i64 e) := hb.cellK; have n1 : w1.cell? ⟨w.heap.size, 1, none⟩ = some (.int .i64 f) := hb.cellK; (first | (have nx := hx.trK hb; clear hx) | have nx := hb); clear hb; try clear hs; try clear g0; try clear g1; have hx := nx; clear nx; have hs := ns; clear ns; have g0 := n0; clear n0; have g1 := n1; clear n1)))
  go_wp2
  go_ret
  exact ⟨rfl, Ext.auK⟩

theorem fmUp_any (e f p : Int) (hg : patB e f p = true) (w : World) : Calls Try.prog 42 #[fmt e f, .int .i64 p] w fun rv w' => rv = .returned (.int .i64 (upV e f p)) ∧ Ext w w' := by
  obtain ⟨hg0, hp0, hp1⟩ := pat_iff.1 hg
  obtain ⟨h1, h2, h3, h4⟩ := good_iff.1 hg0
  obtain ⟨⟨a1, a2⟩, ⟨b1, b2⟩, ⟨c1, c2⟩, hmul⟩ := pw_facts h1 h2 h3 h4
  have Hmul := Lib.hid hmul; clear hmul
  obtain ⟨⟨s0, s1⟩, ⟨z0, z1⟩, ⟨x0, x1⟩, ⟨r0, r1⟩, hsum⟩ := field_bd e f p hg
  have Hsum := Lib.hid hsum; clear hsum
  cases d1 : (p % pw (e + f) == 0)
  · cases d2 : (p / pw (e + f) == 0)
    · have hk : upV e f p = p - 1 := by simp only [upV, d1, d2, Bool.false_eq_true, if_true, if_false]
      have Hk := Lib.hid hk; clear hk
      go_enter Try.func42, Try.ntmps42
      go_wp2_with (first | (go_at_call 50; refine (fmSize_any e f _ hg0 (by omega) _).mono ?_; rintro rv w1 ⟨rfl, hb⟩; have ns : w.heap.size < w1.heap.size := hb.ltK; have n0 : w1.cell? ⟨w.heap.size, 0, none⟩ = some (.int .i64 e) := hb.cellK; have n1 : w1.cell? ⟨w.heap.size, 1, none⟩ = some (.int .i64 f) := hb.cellK; (first | (have nx := hx.trK hb; clear hx) | have nx := hb); clear hb; try clear hs; try clear g0; try clear g1; have hx := nx; clear nx; have hs := ns; clear ns; have g0 := n0; clear n0; have g1 := n1; clear n1) | (go_at_call 97; refine (fmSign_any e f _ hg0 (by omega) _).mono ?_; rintro rv w1 ⟨rfl, hb⟩; have ns : w.heap.size < w1.heap.size := hb.ltK; have n0 : w1.cell? ⟨w.heap.size, 0, none⟩ = some (.int .i64 e) := hb.cellK; have n1 : w1.cell? ⟨w.heap.size, 1, none⟩ = some (.int .i64 f) := hb.cellK; (first | (have nx := hx.trK hb; clear hx) | have nx := hb); clear hb; try clear hs; try clear g0; try clear g1; have hx := nx; clear nx; have hs := ns; clear ns; have g0 := n0; clear n0; have g1 := n1; clear n1))
      go_ret
      exact ⟨ret_int Hk.out.symm, Ext.auK⟩
    · have hk : upV e f p = p + 1 := by simp only [upV, d1, d2, Bool.false_eq_true, if_true, if_false]
      have Hk := Lib.hid hk; clear hk
      go_enter Try.func42, Try.ntmps42
      go_wp2_with (first | (go_at_call 50; refine (fmSize_any e f _ hg0 (by omega) _).mono ?_; rintro rv w1 ⟨rfl, hb⟩; have ns : w.heap.size < w1.heap.size := hb.ltK; have n0 : w1.cell? ⟨w.heap.size, 0, none⟩ = some (.int .i64 e) := hb.cellK; have n1 : w1.cell? ⟨w.heap.size, 1, none⟩ = some (.int .i64 f) := hb.cellK; (first | (have nx := hx.trK hb; clear hx) | have nx := hb); clear hb; try clear hs; try clear g0; try clear g1; have hx := nx; clear nx; have hs := ns; clear ns; have g0 := n0; clear n0; have g1 := n1; clear n1) | (go_at_call 97; refine (fmSign_any e f _ hg0 (by omega) _).mono ?_; rintro rv w1 ⟨rfl, hb⟩; have ns : w.heap.size < w1.heap.size := hb.ltK; have n0 : w1.cell? ⟨w.heap.size, 0, none⟩ = some (.int .i64 e) := hb.cellK; have n1 : w1.cell? ⟨w.heap.size, 1, none⟩ = some (.int .i64 f) := hb.cellK; (first | (have nx := hx.trK hb; clear hx) | have nx := hb); clear hb; try clear hs; try clear g0; try clear g1; have hx := nx; clear nx; have hs := ns; clear ns; have g0 := n0; clear n0; have g1 := n1; clear n1))
      go_ret
      exact ⟨ret_int Hk.out.symm, Ext.auK⟩
  · have hk : upV e f p = 1 := by simp only [upV, d1, Bool.false_eq_true, if_true, if_false]
    have Hk := Lib.hid hk; clear hk
    go_enter Try.func42, Try.ntmps42
    go_wp2_with (first | (go_at_call 50; refine (fmSize_any e f _ hg0 (by omega) _).mono ?_; rintro rv w1 ⟨rfl, hb⟩; have ns : w.heap.size < w1.heap.size := hb.ltK; have n0 : w1.cell? ⟨w.heap.size, 0, none⟩ = some (.int .i64 e) := hb.cellK; have n1 : w1.cell? ⟨w.heap.size, 1, none⟩ = some (.int .i64 f) := hb.cellK; (first | (have nx := hx.trK hb; clear hx) | have nx := hb); clear hb; try clear hs; try clear g0; try clear g1; have hx := nx; clear nx; have hs := ns; clear ns; have g0 := n0; clear n0; have g1 := n1; clear n1) | (go_at_call 97; refine (fmSign_any e f _ hg0 (by omega) _).mono ?_; rintro rv w1 ⟨rfl, hb⟩; have ns : w.heap.size < w1.heap.size := hb.ltK; have n0 : w1.cell? ⟨w.heap.size, 0, none⟩ = some (.int .i64 e) := hb.cellK; have n1 : w1.cell? ⟨w.heap.size, 1, none⟩ = some (.int .i64 f) := hb.cellK; (first | (have nx := hx.trK hb; clear hx) | have nx := hb); clear hb; try clear hs; try clear g0; try clear g1; have hx := nx; clear nx; have hs := ns; clear ns; have g0 := n0; clear n0; have g1 := n1; clear n1))
    go_ret
    exact ⟨ret_int Hk.out.symm, Ext.auK⟩

theorem up_num {e f p : Int} (h : upB e f p = true) : numB e f p = true ∧ (p == (pw e - 1) * pw f) = false := by
  unfold upB at h
  simpa using h

theorem sNextUp_no (e f p : Int) (hg : upB e f p = false) (w : World) : Calls Try.prog 8 #[fmt e f, .int .i64 p] w fun rv w' => rv = .returned (.tuple #[.int .i64 0, .bool false]) ∧ Ext w w' := by
  cases hn : numB e f p
  · go_enter Try.func8, Try.ntmps8
    go_wp2_with (go_at_call 40; refine (fmNumber_any e f _ _).mono ?_; rintro rv w1 ⟨rfl, hb⟩; have ns : w.heap.size < w1.heap.size := hb.ltK; have n0 : w1.cell? ⟨w.heap.size, 0, none⟩ = some (.int .i64 e) := hb.cellK; have n1 : w1.cell? ⟨w.heap.size, 1, none⟩ = some (.int .i64 f) := hb.cellK; (first | (have nx := hx.trK hb; clear hx) | have nx := hb); clear hb; try clear hs; try clear g0; try clear g1; have hx := nx; clear nx; have hs := ns; clear ns; have g0 := n0; clear n0; have g1 := n1; clear n1)
    go_ret2
    exact ⟨rfl, Ext.auK⟩
  · have hi : (p == (pw e - 1) * pw f) = true := by unfold upB at hg; rw [hn] at hg; simpa using hg
    obtain ⟨hg0, p0, _⟩ := pat_iff.1 (num_pat hn)
    go_enter Try.func8, Try.ntmps8
    go_wp2_with (first | (go_at_call 40; refine (fmNumber_any e f _ _).mono ?_; rintro rv w1 ⟨rfl, hb⟩; have ns : w.heap.size < w1.heap.size := hb.ltK; have n0 : w1.cell? ⟨w.heap.size, 0, none⟩ = some (.int .i64 e) := hb.cellK; have n1 : w1.cell? ⟨w.heap.size, 1, none⟩ = some (.int .i64 f) := hb.cellK; (first | (have nx := hx.trK hb; clear hx) | have nx := hb); clear hb; try clear hs; try clear g0; try clear g1; have hx := nx; clear nx; have hs := ns; clear ns; have g0 := n0; clear n0; have g1 := n1; clear n1) | (go_at_call 41; refine (fmInfinite_any e f hg0 _).mono ?_; rintro rv w1 ⟨rfl, hb⟩; have ns : w.heap.size < w1.heap.size := hb.ltK; have n0 : w1.cell? ⟨w.heap.size, 0, none⟩ = some (.int .i64 e) := hb.cellK; have n1 : w1.cell? ⟨w.heap.size, 1, none⟩ = some (.int .i64 f) := hb.cellK; (first | (have nx := hx.trK hb; clear hx) | have nx := hb); clear hb; try clear hs; try clear g0; try clear g1; have hx := nx; clear nx; have hs := ns; clear ns; have g0 := n0; clear n0; have g1 := n1; clear n1))
    go_ret2
    exact ⟨rfl, Ext.auK⟩

theorem sNextUp_yes (e f p : Int) (hg : upB e f p = true) (w : World) : Calls Try.prog 8 #[fmt e f, .int .i64 p] w fun rv w' => rv = .returned (.tuple #[.int .i64 (upV e f p), .bool true]) ∧ Ext w w' := by
  obtain ⟨hn, hi⟩ := up_num hg
  obtain ⟨hg0, p0, _⟩ := pat_iff.1 (num_pat hn)
  go_enter Try.func8, Try.ntmps8
  go_wp2_with (first | (go_at_call 40; refine (fmNumber_any e f _ _).mono ?_; rintro rv w1 ⟨rfl, hb⟩; have ns : w.heap.size < w1.heap.size := hb.ltK; have n0 : w1.cell? ⟨w.heap.size, 0, none⟩ = some (.int .i64 e) := hb.cellK; have n1 : w1.cell? ⟨w.heap.size, 1, none⟩ = some (.int .i64 f) := hb.cellK; (first | (have nx := hx.trK hb; clear hx) | have nx := hb); clear hb; try clear hs; try clear g0; try clear g1; have hx := nx; clear nx; have hs := ns; clear ns; have g0 := n0; clear n0; have g1 := n1; clear n1) | (go_at_call 41; refine (fmInfinite_any e f hg0 _).mono ?_; rintro rv w1 ⟨rfl, hb⟩; have ns : w.heap.size < w1.heap.size := hb.ltK; have n0 : w1.cell? ⟨w.heap.size, 0, none⟩ = some (.int .i64 e) := hb.cellK; have n1 : w1.cell? ⟨w.heap.size, 1, none⟩ = some (.int .i64 f) := hb.cellK; (first | (have nx := hx.trK hb; clear hx) | have nx := hb); clear hb; try clear hs; try clear g0; try clear g1; have hx := nx; clear nx; have hs := ns; clear ns; have g0 := n0; clear n0; have g1 := n1; clear n1) | (go_at_call 42; refine (fmUp_any e f _ (num_pat hn) _).mono ?_; rintro rv w1 ⟨rfl, hb⟩; have ns : w.heap.size < w1.heap.size := hb.ltK; have n0 : w1.cell? ⟨w.heap.size, 0, none⟩ = some (.int .i64 e) := hb.cellK; have n1 : w1.cell? ⟨w.heap.size, 1, none⟩ = some (.int .i64 f) := hb.cellK; (first | (have nx := hx.trK hb; clear hx) | have nx := hb); clear hb; try clear hs; try clear g0; try clear g1; have hx := nx; clear nx; have hs := ns; clear ns; have g0 := n0; clear n0; have g1 := n1; clear n1))
  go_ret2
  exact ⟨rfl, Ext.auK⟩
end Go.Proofs.Ytmddlbphanlfhaa

namespace Go.Proofs.Ytmddlbphanlfhaa
open Go Go.RowKit
set_option linter.unusedSimpArgs false
set_option linter.unusedVariables false

theorem size_fact (e f p : Int) (hp : patB e f p = true) : p % pw (e + f) = p % pw (e + f) / pw f * pw f + p % pw f ∧ p % pw f = p % pw (e + f) % pw f := by
  obtain ⟨hg0, _, _⟩ := pat_iff.1 hp
  obtain ⟨h1, h2, h3, h4⟩ := good_iff.1 hg0
  obtain ⟨_, _, _, hmul⟩ := pw_facts h1 h2 h3 h4
  have hr : p % pw f = p % pw (e + f) % pw f := (Int.emod_emod_of_dvd p ⟨pw e, by rw [hmul, Int.mul_comm]⟩).symm
  have := Int.mul_ediv_add_emod (p % pw (e + f)) (pw f)
  rw [Int.mul_comm] at this
  exact ⟨by rw [hr]; omega, hr⟩

theorem inf_fact (e f p : Int) (hp : patB e f p = true) : (p % pw (e + f) / pw f == pw e - 1 && p % pw f == 0) = (p % pw (e + f) == (pw e - 1) * pw f) := by
  obtain ⟨hs, hr⟩ := size_fact e f p hp
  obtain ⟨hg0, _, _⟩ := pat_iff.1 hp
  obtain ⟨h1, h2, h3, h4⟩ := good_iff.1 hg0
  obtain ⟨_, _, ⟨c1, c2⟩, _⟩ := pw_facts h1 h2 h3 h4
  rw [Bool.eq_iff_iff]
  simp only [Bool.and_eq_true, beq_iff_eq]
  constructor
  · rintro ⟨a, b⟩
    rw [hs, a, b]; omega
  · intro a
    rw [hr, a]
    exact ⟨Int.mul_ediv_cancel _ (by omega), Int.mul_emod_left _ _⟩

theorem shZero_is (s x r o : Int) (b : Bool) (h : (x == 0 && r == 0) = b) (w : World) : Calls Try.prog 38 #[shp s x r o] w fun rv w' => rv = .returned (.bool b) ∧ Ext w w' := by
  have := shZero_any s x r o w
  rwa [h] at this

theorem shInfinite_is (s x r o : Int) (b : Bool) (h : (x == o && r == 0) = b) (w : World) : Calls Try.prog 39 #[shp s x r o] w fun rv w' => rv = .returned (.bool b) ∧ Ext w w' := by
  have := shInfinite_any s x r o w
  rwa [h] at this

set_option maxHeartbeats 800000 in
theorem iNextUp_yes (e f p : Int) (hg : upB e f p = true) (w : World) : Calls Try.prog 7 #[fmt e f, .int .i64 p] w fun rv w' => rv = .returned (.tuple #[.int .i64 (upV e f p), .bool true]) ∧ Ext w w' := by
  obtain ⟨hn, hi⟩ := up_num hg
  have hp := num_pat hn
  obtain ⟨hg0, p0, p1⟩ := pat_iff.1 hp
  obtain ⟨h1, h2, h3, h4⟩ := good_iff.1 hg0
  have a1 := (pw_facts h1 h2 h3 h4).1.1
  have a2 := (pw_facts h1 h2 h3 h4).1.2
  have hz := zer_iff e f p hp
  have hq : zerB e f p = (p % pw (e + f) / pw f == 0 && p % pw f == 0) := by unfold zerB; rw [hp, Bool.true_and]
  have hf := inf_fact e f p hp
  cases d1 : (p % pw (e + f) == 0)
  · have Z : Hid ((p % pw (e + f) / pw f == 0 && p % pw f == 0) = false) := by show _ = _; rw [← hq, hz, d1]
    rcases sign_lt e f p hp with ⟨l1, l2⟩ | ⟨l1, l2⟩
    · have hk : upV e f p = p + 1 := by unfold upV; rw [d1, l1]; rfl
      have Hk := Lib.hid hk
      have N : Hid ((p % pw (e + f) / pw f == pw e - 1 && p % pw f == 0) = false) := by
        show _ = _
        rw [hf]
        have : p % pw (e + f) = p := Int.emod_eq_of_lt p0 l2
        rw [this]; exact hi
      have d2 : (p / pw (e + f) == 1) = false := by rw [l1]; rfl
      clear hk hf hq hz l1 d1 hi hg
      go_enter Try.func7, Try.ntmps7
      go_wp2_with fail
      (go_at_call 35; refine (hasNumber_any e f _ _).mono ?_; rintro rv w1 ⟨rfl, hb⟩; have ns : w.heap.size < w1.heap.size := hb.ltK; have n0 : w1.cell? ⟨w.heap.size, 0, none⟩ = some (.int .i64 e) := hb.cellK; have n1 : w1.cell? ⟨w.heap.size, 1, none⟩ = some (.int .i64 f) := hb.cellK; (first | (have nx := hx.trK hb; clear hx) | have nx := hb); clear hb; try clear hs; try clear g0; try clear g1; have hx := nx; clear nx; have hs := ns; clear ns; have g0 := n0; clear n0; have g1 := n1; clear n1)
      go_wp2_with fail
      (go_at_call 37; refine (shapeOf_any e f _ hg0 (by omega) (by omega) _).mono ?_; rintro rv w1 ⟨rfl, hb⟩; have ns : w.heap.size < w1.heap.size := hb.ltK; have n0 : w1.cell? ⟨w.heap.size, 0, none⟩ = some (.int .i64 e) := hb.cellK; have n1 : w1.cell? ⟨w.heap.size, 1, none⟩ = some (.int .i64 f) := hb.cellK; (first | (have nx := hx.trK hb; clear hx) | have nx := hb); clear hb; try clear hs; try clear g0; try clear g1; have hx := nx; clear nx; have hs := ns; clear ns; have g0 := n0; clear n0; have g1 := n1; clear n1)
      go_wp2_with fail
      (go_at_call 38; refine (shZero_is _ _ _ _ _ Z.out _).mono ?_; rintro rv w2 ⟨rfl, hb⟩; have ns : w1.heap.size < w2.heap.size := hb.ltK; have n0 : w2.cell? ⟨w1.heap.size, 0, none⟩ = some (.int .i64 (p / pw (e + f))) := hb.cellK; have n1 : w2.cell? ⟨w1.heap.size, 1, none⟩ = some (.int .i64 (p % pw (e + f) / pw f)) := hb.cellK; have n2 : w2.cell? ⟨w1.heap.size, 2, none⟩ = some (.int .i64 (p % pw f)) := hb.cellK; have n3 : w2.cell? ⟨w1.heap.size, 3, none⟩ = some (.int .i64 (pw e - 1)) := hb.cellK; (first | (have nx := hx.trK hb; clear hx) | have nx := hb); clear hb; try clear hs; try clear g0; try clear g1; try clear g2; try clear g3; have hx := nx; clear nx; have hs := ns; clear ns; have g0 := n0; clear n0; have g1 := n1; clear n1; have g2 := n2; clear n2; have g3 := n3; clear n3)
      go_wp2_with fail
      (go_at_call 39; refine (shInfinite_is _ _ _ _ _ N.out _).mono ?_; rintro rv w3 ⟨rfl, hb⟩; have ns : w1.heap.size < w3.heap.size := hb.ltK; have n0 : w3.cell? ⟨w1.heap.size, 0, none⟩ = some (.int .i64 (p / pw (e + f))) := hb.cellK; have n1 : w3.cell? ⟨w1.heap.size, 1, none⟩ = some (.int .i64 (p % pw (e + f) / pw f)) := hb.cellK; have n2 : w3.cell? ⟨w1.heap.size, 2, none⟩ = some (.int .i64 (p % pw f)) := hb.cellK; have n3 : w3.cell? ⟨w1.heap.size, 3, none⟩ = some (.int .i64 (pw e - 1)) := hb.cellK; (first | (have nx := hx.trK hb; clear hx) | have nx := hb); clear hb; try clear hs; try clear g0; try clear g1; try clear g2; try clear g3; have hx := nx; clear nx; have hs := ns; clear ns; have g0 := n0; clear n0; have g1 := n1; clear n1; have g2 := n2; clear n2; have g3 := n3; clear n3)
      go_wp2_with fail
      go_ret2
      exact ⟨ret_ib Hk.out.symm, Ext.auK⟩
    · have hk : upV e f p = p - 1 := by unfold upV; rw [d1, l1]; rfl
      have Hk := Lib.hid hk
      have d2 : (p / pw (e + f) == 1) = true := by rw [l1]; rfl
      clear hk hf hq hz l1 d1 hi hg
      go_enter Try.func7, Try.ntmps7
      go_wp2_with fail
      (go_at_call 35; refine (hasNumber_any e f _ _).mono ?_; rintro rv w1 ⟨rfl, hb⟩; have ns : w.heap.size < w1.heap.size := hb.ltK; have n0 : w1.cell? ⟨w.heap.size, 0, none⟩ = some (.int .i64 e) := hb.cellK; have n1 : w1.cell? ⟨w.heap.size, 1, none⟩ = some (.int .i64 f) := hb.cellK; (first | (have nx := hx.trK hb; clear hx) | have nx := hb); clear hb; try clear hs; try clear g0; try clear g1; have hx := nx; clear nx; have hs := ns; clear ns; have g0 := n0; clear n0; have g1 := n1; clear n1)
      go_wp2_with fail
      (go_at_call 37; refine (shapeOf_any e f _ hg0 (by omega) (by omega) _).mono ?_; rintro rv w1 ⟨rfl, hb⟩; have ns : w.heap.size < w1.heap.size := hb.ltK; have n0 : w1.cell? ⟨w.heap.size, 0, none⟩ = some (.int .i64 e) := hb.cellK; have n1 : w1.cell? ⟨w.heap.size, 1, none⟩ = some (.int .i64 f) := hb.cellK; (first | (have nx := hx.trK hb; clear hx) | have nx := hb); clear hb; try clear hs; try clear g0; try clear g1; have hx := nx; clear nx; have hs := ns; clear ns; have g0 := n0; clear n0; have g1 := n1; clear n1)
      go_wp2_with fail
      (go_at_call 38; refine (shZero_is _ _ _ _ _ Z.out _).mono ?_; rintro rv w2 ⟨rfl, hb⟩; have ns : w1.heap.size < w2.heap.size := hb.ltK; have n0 : w2.cell? ⟨w1.heap.size, 0, none⟩ = some (.int .i64 (p / pw (e + f))) := hb.cellK; have n1 : w2.cell? ⟨w1.heap.size, 1, none⟩ = some (.int .i64 (p % pw (e + f) / pw f)) := hb.cellK; have n2 : w2.cell? ⟨w1.heap.size, 2, none⟩ = some (.int .i64 (p % pw f)) := hb.cellK; have n3 : w2.cell? ⟨w1.heap.size, 3, none⟩ = some (.int .i64 (pw e - 1)) := hb.cellK; (first | (have nx := hx.trK hb; clear hx) | have nx := hb); clear hb; try clear hs; try clear g0; try clear g1; try clear g2; try clear g3; have hx := nx; clear nx; have hs := ns; clear ns; have g0 := n0; clear n0; have g1 := n1; clear n1; have g2 := n2; clear n2; have g3 := n3; clear n3)
      go_wp2_with fail
      go_ret2
      exact ⟨ret_ib Hk.out.symm, Ext.auK⟩
  · have Z : Hid ((p % pw (e + f) / pw f == 0 && p % pw f == 0) = true) := by show _ = _; rw [← hq, hz, d1]
    have hk : upV e f p = 1 := by unfold upV; rw [d1]; rfl
    have Hk := Lib.hid hk
    clear hk hf hq hz d1 hi hg
    go_enter Try.func7, Try.ntmps7
    go_wp2_with fail
    (go_at_call 35; refine (hasNumber_any e f _ _).mono ?_; rintro rv w1 ⟨rfl, hb⟩; have ns : w.heap.size < w1.heap.size := hb.ltK; have n0 : w1.cell? ⟨w.heap.size, 0, none⟩ = some (.int .i64 e) := hb.cellK; have n1 : w1.cell? ⟨w.heap.size, 1, none⟩ = some (.int .i64 f) := hb.cellK; (first | (have nx := hx.trK hb; clear hx) | have nx := hb); clear hb; try clear hs; try clear g0; try clear g1; have hx := nx; clear nx; have hs := ns; clear ns; have g0 := n0; clear n0; have g1 := n1; clear n1)
    go_wp2_with fail
    (go_at_call 37; refine (shapeOf_any e f _ hg0 (by omega) (by omega) _).mono ?_; rintro rv w1 ⟨rfl, hb⟩; have ns : w.heap.size < w1.heap.size := hb.ltK; have n0 : w1.cell? ⟨w.heap.size, 0, none⟩ = some (.int .i64 e) := hb.cellK; have n1 : w1.cell? ⟨w.heap.size, 1, none⟩ = some (.int .i64 f) := hb.cellK; (first | (have nx := hx.trK hb; clear hx) | have nx := hb); clear hb; try clear hs; try clear g0; try clear g1; have hx := nx; clear nx; have hs := ns; clear ns; have g0 := n0; clear n0; have g1 := n1; clear n1)
    go_wp2_with fail
    (go_at_call 38; refine (shZero_is _ _ _ _ _ Z.out _).mono ?_; rintro rv w2 ⟨rfl, hb⟩; have ns : w1.heap.size < w2.heap.size := hb.ltK; have n0 : w2.cell? ⟨w1.heap.size, 0, none⟩ = some (.int .i64 (p / pw (e + f))) := hb.cellK; have n1 : w2.cell? ⟨w1.heap.size, 1, none⟩ = some (.int .i64 (p % pw (e + f) / pw f)) := hb.cellK; have n2 : w2.cell? ⟨w1.heap.size, 2, none⟩ = some (.int .i64 (p % pw f)) := hb.cellK; have n3 : w2.cell? ⟨w1.heap.size, 3, none⟩ = some (.int .i64 (pw e - 1)) := hb.cellK; (first | (have nx := hx.trK hb; clear hx) | have nx := hb); clear hb; try clear hs; try clear g0; try clear g1; try clear g2; try clear g3; have hx := nx; clear nx; have hs := ns; clear ns; have g0 := n0; clear n0; have g1 := n1; clear n1; have g2 := n2; clear n2; have g3 := n3; clear n3)
    go_wp2_with fail
    go_ret2
    exact ⟨ret_ib Hk.out.symm, Ext.auK⟩

theorem iNextUp_no (e f p : Int) (hg : upB e f p = false) (w : World) : Calls Try.prog 7 #[fmt e f, .int .i64 p] w fun rv w' => rv = .returned (.tuple #[.int .i64 0, .bool false]) ∧ Ext w w' := by
  cases hn : numB e f p
  · go_enter Try.func7, Try.ntmps7
    go_wp2_with (go_at_call 35; refine (hasNumber_any e f _ _).mono ?_; rintro rv w1 ⟨rfl, hb⟩; have ns : w.heap.size < w1.heap.size := hb.ltK; have n0 : w1.cell? ⟨w.heap.size, 0, none⟩ = some (.int .i64 e) := hb.cellK; have n1 : w1.cell? ⟨w.heap.size, 1, none⟩ = some (.int .i64 f) := hb.cellK; (first | (have nx := hx.trK hb; clear hx) | have nx := hb); clear hb; try clear hs; try clear g0; try clear g1; have hx := nx; clear nx; have hs := ns; clear ns; have g0 := n0; clear n0; have g1 := n1; clear n1)
    go_ret2
    exact ⟨rfl, Ext.auK⟩
  · have hi : (p == (pw e - 1) * pw f) = true := by unfold upB at hg; rw [hn] at hg; simpa using hg
    have hp := num_pat hn
    obtain ⟨hg0, p0, p1⟩ := pat_iff.1 hp
    obtain ⟨h1, h2, h3, h4⟩ := good_iff.1 hg0
    have a1 := (pw_facts h1 h2 h3 h4).1.1
    have a2 := (pw_facts h1 h2 h3 h4).1.2
    have b1 := (pw_facts h1 h2 h3 h4).2.1.1
    have c1 := (pw_facts h1 h2 h3 h4).2.2.1.1
    have hq : zerB e f p = (p % pw (e + f) / pw f == 0 && p % pw f == 0) := by unfold zerB; rw [hp, Bool.true_and]
    have hz := zer_iff e f p hp
    have hf := inf_fact e f p hp
    have e1 : p = (pw e - 1) * pw f := by simpa using hi
    have e2 : (pw e - 1) * pw f < pw (e + f) := by rw [(pw_facts h1 h2 h3 h4).2.2.2, Int.sub_mul]; omega
    have e3 : 3 * 2 ≤ (pw e - 1) * pw f := Int.mul_le_mul (by omega) c1 (by omega) (by omega)
    rcases sign_lt e f p hp with ⟨l1, l2⟩ | ⟨l1, l2⟩
    · have e4 : p % pw (e + f) = p := Int.emod_eq_of_lt p0 l2
      have Z : Hid ((p % pw (e + f) / pw f == 0 && p % pw f == 0) = false) := by show _ = _; rw [← hq, hz, e4]; simp; omega
      have N : Hid ((p % pw (e + f) / pw f == pw e - 1 && p % pw f == 0) = true) := by show _ = _; rw [hf, e4]; exact hi
      have d2 : (p / pw (e + f) == 1) = false := by rw [l1]; rfl
      clear hf hq hz l1 hi hg e1 e2 e3 e4
      go_enter Try.func7, Try.ntmps7
      go_wp2_with fail
      (go_at_call 35; refine (hasNumber_any e f _ _).mono ?_; rintro rv w1 ⟨rfl, hb⟩; have ns : w.heap.size < w1.heap.size := hb.ltK; have n0 : w1.cell? ⟨w.heap.size, 0, none⟩ = some (.int .i64 e) := hb.cellK; have n1 : w1.cell? ⟨w.heap.size, 1, none⟩ = some (.int .i64 f) := hb.cellK; (first | (have nx := hx.trK hb; clear hx) | have nx := hb); clear hb; try clear hs; try clear g0; try clear g1; have hx := nx; clear nx; have hs := ns; clear ns; have g0 := n0; clear n0; have g1 := n1; clear n1)
      go_wp2_with fail
      (go_at_call 37; refine (shapeOf_any e f _ hg0 (by omega) (by omega) _).mono ?_; rintro rv w1 ⟨rfl, hb⟩; have ns : w.heap.size < w1.heap.size := hb.ltK; have n0 : w1.cell? ⟨w.heap.size, 0, none⟩ = some (.int .i64 e) := hb.cellK; have n1 : w1.cell? ⟨w.heap.size, 1, none⟩ = some (.int .i64 f) := hb.cellK; (first | (have nx := hx.trK hb; clear hx) | have nx := hb); clear hb; try clear hs; try clear g0; try clear g1; have hx := nx; clear nx; have hs := ns; clear ns; have g0 := n0; clear n0; have g1 := n1; clear n1)
      go_wp2_with fail
      (go_at_call 38; refine (shZero_is _ _ _ _ _ Z.out _).mono ?_; rintro rv w2 ⟨rfl, hb⟩; have ns : w1.heap.size < w2.heap.size := hb.ltK; have n0 : w2.cell? ⟨w1.heap.size, 0, none⟩ = some (.int .i64 (p / pw (e + f))) := hb.cellK; have n1 : w2.cell? ⟨w1.heap.size, 1, none⟩ = some (.int .i64 (p % pw (e + f) / pw f)) := hb.cellK; have n2 : w2.cell? ⟨w1.heap.size, 2, none⟩ = some (.int .i64 (p % pw f)) := hb.cellK; have n3 : w2.cell? ⟨w1.heap.size, 3, none⟩ = some (.int .i64 (pw e - 1)) := hb.cellK; (first | (have nx := hx.trK hb; clear hx) | have nx := hb); clear hb; try clear hs; try clear g0; try clear g1; try clear g2; try clear g3; have hx := nx; clear nx; have hs := ns; clear ns; have g0 := n0; clear n0; have g1 := n1; clear n1; have g2 := n2; clear n2; have g3 := n3; clear n3)
      go_wp2_with fail
      (go_at_call 39; refine (shInfinite_is _ _ _ _ _ N.out _).mono ?_; rintro rv w3 ⟨rfl, hb⟩; have ns : w1.heap.size < w3.heap.size := hb.ltK; have n0 : w3.cell? ⟨w1.heap.size, 0, none⟩ = some (.int .i64 (p / pw (e + f))) := hb.cellK; have n1 : w3.cell? ⟨w1.heap.size, 1, none⟩ = some (.int .i64 (p % pw (e + f) / pw f)) := hb.cellK; have n2 : w3.cell? ⟨w1.heap.size, 2, none⟩ = some (.int .i64 (p % pw f)) := hb.cellK; have n3 : w3.cell? ⟨w1.heap.size, 3, none⟩ = some (.int .i64 (pw e - 1)) := hb.cellK; (first | (have nx := hx.trK hb; clear hx) | have nx := hb); clear hb; try clear hs; try clear g0; try clear g1; try clear g2; try clear g3; have hx := nx; clear nx; have hs := ns; clear ns; have g0 := n0; clear n0; have g1 := n1; clear n1; have g2 := n2; clear n2; have g3 := n3; clear n3)
      go_wp2_with fail
      go_ret2
      exact ⟨rfl, Ext.auK⟩
    · exact absurd l2 (by omega)
end Go.Proofs.Ytmddlbphanlfhaa

namespace Go.Proofs.Ytmddlbphanlfhaa
open Go Go.RowKit
set_option linter.unusedSimpArgs false
set_option linter.unusedVariables false

/-- The pattern with the other sign. -/
def negV (e f p : Int) : Int := (1 - p / pw (e + f)) * pw (e + f) + p % pw (e + f)

theorem sum_of (e f s m : Int) (hg : goodB e f = true) (hs0 : 0 ≤ s) (hs1 : s ≤ 1) (hm0 : 0 ≤ m) (hm1 : m < pw (e + f)) :
    patB e f (s * pw (e + f) + m) = true ∧ (s * pw (e + f) + m) / pw (e + f) = s ∧ (s * pw (e + f) + m) % pw (e + f) = m := by
  obtain ⟨h1, h2, h3, h4⟩ := good_iff.1 hg
  have a1 := (pw_facts h1 h2 h3 h4).1.1
  have hs : s = 0 ∨ s = 1 := by omega
  have q1 : (s * pw (e + f) + m) % pw (e + f) = m := by rw [Int.add_comm, Int.add_mul_emod_self_right]; exact Int.emod_eq_of_lt hm0 hm1
  have q2 : (s * pw (e + f) + m) / pw (e + f) = s := by rw [Int.add_comm, Int.add_mul_ediv_right _ _ (by omega), Int.ediv_eq_zero_of_lt hm0 hm1]; omega
  refine ⟨pat_iff.2 ⟨hg, ?_, ?_⟩, q2, q1⟩ <;> rcases hs with rfl | rfl <;> omega

theorem neg_fact (e f p : Int) (hp : patB e f p = true) : patB e f (negV e f p) = true ∧ negV e f p / pw (e + f) = 1 - p / pw (e + f) ∧ negV e f p % pw (e + f) = p % pw (e + f) ∧ negV e f (negV e f p) = p := by
  obtain ⟨hg0, _, _⟩ := pat_iff.1 hp
  obtain ⟨⟨s0, s1⟩, ⟨z0, z1⟩, _, _, hsum⟩ := field_bd e f p hp
  obtain ⟨n1, n2, n3⟩ := sum_of e f (1 - p / pw (e + f)) (p % pw (e + f)) hg0 (by omega) (by omega) z0 z1
  refine ⟨n1, n2, n3, ?_⟩
  unfold negV
  rw [n2, n3, hsum.symm.symm |> fun _ => show 1 - (1 - p / pw (e + f)) = p / pw (e + f) by omega]
  exact hsum.symm

theorem neg_num (e f p : Int) (hp : patB e f p = true) : numB e f (negV e f p) = numB e f p := by
  obtain ⟨n1, n2, n3, _⟩ := neg_fact e f p hp
  have r1 := (size_fact e f p hp).2
  have r2 := (size_fact e f _ n1).2
  unfold numB
  rw [n1, hp, r2, r1, n3]

theorem up_pat (e f p : Int) (h : upB e f p = true) : patB e f (upV e f p) = true := by
  have hp := num_pat (up_num h).1
  obtain ⟨hg0, p0, p1⟩ := pat_iff.1 hp
  obtain ⟨h1, h2, h3, h4⟩ := good_iff.1 hg0
  have a1 := (pw_facts h1 h2 h3 h4).1.1
  refine pat_iff.2 ⟨hg0, ?_⟩
  unfold upV
  split
  · omega
  · rcases sign_lt e f p hp with ⟨l1, l2⟩ | ⟨l1, l2⟩
    · rw [l1]; simp only [beq_self_eq_true, if_true]; omega
    · rw [l1]; simp only [show ((1 : Int) == 0) = false from rfl, Bool.false_eq_true, if_false]; omega

/-- There is a next pattern downwards. -/
def downB (e f p : Int) : Bool := patB e f p && upB e f (negV e f p)

/-- The next pattern downwards. -/
def downV (e f p : Int) : Int := negV e f (upV e f (negV e f p))

theorem inf_pat (e f : Int) (hg : goodB e f = true) : patB e f ((pw e - 1) * pw f) = true := by
  obtain ⟨h1, h2, h3, h4⟩ := good_iff.1 hg
  have b1 := (pw_facts h1 h2 h3 h4).2.1.1
  have c1 := (pw_facts h1 h2 h3 h4).2.2.1.1
  have a1 := (pw_facts h1 h2 h3 h4).1.1
  refine pat_iff.2 ⟨hg, Int.mul_nonneg (by omega) (by omega), ?_⟩
  rw [Int.sub_mul, ← (pw_facts h1 h2 h3 h4).2.2.2]; omega

theorem down_iff (e f p : Int) (hp : patB e f p = true) : upB e f (negV e f p) = (numB e f p && !(p == negV e f ((pw e - 1) * pw f))) := by
  obtain ⟨hg0, _, _⟩ := pat_iff.1 hp
  obtain ⟨_, _, _, n4⟩ := neg_fact e f p hp
  obtain ⟨_, _, _, i4⟩ := neg_fact e f _ (inf_pat e f hg0)
  unfold upB
  rw [neg_num e f p hp]
  congr 2
  rw [Bool.eq_iff_iff]
  simp only [beq_iff_eq]
  exact ⟨fun h => by rw [← h, n4], fun h => by rw [h, i4]⟩

theorem negateV_any (e f p : Int) (hg : patB e f p = true) (w : World) : Calls Try.prog 43 #[fmt e f, .int .i64 p] w fun rv w' => rv = .returned (.int .i64 (negV e f p)) ∧ Ext w w' := fmNegate_any e f p hg w

theorem iNegateV_any (e f p : Int) (hg : patB e f p = true) (w : World) : Calls Try.prog 15 #[fmt e f, .int .i64 p] w fun rv w' => rv = .returned (.tuple #[.int .i64 (negV e f p), .bool true]) ∧ Ext w w' := iNegateOf_yes e f p hg w

theorem iNextDown_no (e f p : Int) (hg : downB e f p = false) (w : World) : Calls Try.prog 9 #[fmt e f, .int .i64 p] w fun rv w' => rv = .returned (.tuple #[.int .i64 0, .bool false]) ∧ Ext w w' := by
  cases hp : patB e f p
  · go_enter Try.func9, Try.ntmps9
    go_wp2_with (go_at_call 15; refine (iNegateOf_no e f _ hp _).mono ?_; rintro rv w1 ⟨rfl, hb⟩; have ns : w.heap.size < w1.heap.size := hb.ltK; have n0 : w1.cell? ⟨w.heap.size, 0, none⟩ = some (.int .i64 e) := hb.cellK; have n1 : w1.cell? ⟨w.heap.size, 1, none⟩ = some (.int .i64 f) := hb.cellK; (first | (have nx := hx.trK hb; clear hx) | have nx := hb); clear hb; try clear hs; try clear g0; try clear g1; have hx := nx; clear nx; have hs := ns; clear ns; have g0 := n0; clear n0; have g1 := n1; clear n1)
    go_ret2
    exact ⟨rfl, Ext.auK⟩
  · have hu : upB e f (negV e f p) = false := by unfold downB at hg; rw [hp] at hg; simpa using hg
    go_enter Try.func9, Try.ntmps9
    go_wp2_with fail
    (go_at_call 15; refine (iNegateV_any e f p hp _).mono ?_; rintro rv w1 ⟨rfl, hb⟩; have ns : w.heap.size < w1.heap.size := hb.ltK; have n0 : w1.cell? ⟨w.heap.size, 0, none⟩ = some (.int .i64 e) := hb.cellK; have n1 : w1.cell? ⟨w.heap.size, 1, none⟩ = some (.int .i64 f) := hb.cellK; (first | (have nx := hx.trK hb; clear hx) | have nx := hb); clear hb; try clear hs; try clear g0; try clear g1; have hx := nx; clear nx; have hs := ns; clear ns; have g0 := n0; clear n0; have g1 := n1; clear n1)
    go_wp2_with fail
    (go_at_call 7; refine (iNextUp_no e f _ hu _).mono ?_; rintro rv w1 ⟨rfl, hb⟩; have ns : w.heap.size < w1.heap.size := hb.ltK; have n0 : w1.cell? ⟨w.heap.size, 0, none⟩ = some (.int .i64 e) := hb.cellK; have n1 : w1.cell? ⟨w.heap.size, 1, none⟩ = some (.int .i64 f) := hb.cellK; (first | (have nx := hx.trK hb; clear hx) | have nx := hb); clear hb; try clear hs; try clear g0; try clear g1; have hx := nx; clear nx; have hs := ns; clear ns; have g0 := n0; clear n0; have g1 := n1; clear n1)
    go_wp2_with fail
    go_ret2
    exact ⟨rfl, Ext.auK⟩

theorem iNextDown_yes (e f p : Int) (hg : downB e f p = true) (w : World) : Calls Try.prog 9 #[fmt e f, .int .i64 p] w fun rv w' => rv = .returned (.tuple #[.int .i64 (downV e f p), .bool true]) ∧ Ext w w' := by
  obtain ⟨hp, hu⟩ : patB e f p = true ∧ upB e f (negV e f p) = true := by unfold downB at hg; simpa using hg
  have hp2 := up_pat e f _ hu
  go_enter Try.func9, Try.ntmps9
  go_wp2_with fail
  (go_at_call 15; refine (iNegateV_any e f p hp _).mono ?_; rintro rv w1 ⟨rfl, hb⟩; have ns : w.heap.size < w1.heap.size := hb.ltK; have n0 : w1.cell? ⟨w.heap.size, 0, none⟩ = some (.int .i64 e) := hb.cellK; have n1 : w1.cell? ⟨w.heap.size, 1, none⟩ = some (.int .i64 f) := hb.cellK; (first | (have nx := hx.trK hb; clear hx) | have nx := hb); clear hb; try clear hs; try clear g0; try clear g1; have hx := nx; clear nx; have hs := ns; clear ns; have g0 := n0; clear n0; have g1 := n1; clear n1)
  go_wp2_with fail
  (go_at_call 7; refine (iNextUp_yes e f _ hu _).mono ?_; rintro rv w1 ⟨rfl, hb⟩; have ns : w.heap.size < w1.heap.size := hb.ltK; have n0 : w1.cell? ⟨w.heap.size, 0, none⟩ = some (.int .i64 e) := hb.cellK; have n1 : w1.cell? ⟨w.heap.size, 1, none⟩ = some (.int .i64 f) := hb.cellK; (first | (have nx := hx.trK hb; clear hx) | have nx := hb); clear hb; try clear hs; try clear g0; try clear g1; have hx := nx; clear nx; have hs := ns; clear ns; have g0 := n0; clear n0; have g1 := n1; clear n1)
  go_wp2_with fail
  (go_at_call 15; refine (iNegateV_any e f _ hp2 _).mono ?_; rintro rv w1 ⟨rfl, hb⟩; have ns : w.heap.size < w1.heap.size := hb.ltK; have n0 : w1.cell? ⟨w.heap.size, 0, none⟩ = some (.int .i64 e) := hb.cellK; have n1 : w1.cell? ⟨w.heap.size, 1, none⟩ = some (.int .i64 f) := hb.cellK; (first | (have nx := hx.trK hb; clear hx) | have nx := hb); clear hb; try clear hs; try clear g0; try clear g1; have hx := nx; clear nx; have hs := ns; clear ns; have g0 := n0; clear n0; have g1 := n1; clear n1)
  go_wp2_with fail
  go_ret2
  exact ⟨rfl, Ext.auK⟩

theorem fmNumber_is (e f p : Int) (b : Bool) (h : numB e f p = b) (w : World) : Calls Try.prog 40 #[fmt e f, .int .i64 p] w fun rv w' => rv = .returned (.bool b) ∧ Ext w w' := by
  have := fmNumber_any e f p w
  rwa [h] at this

theorem sNextDown_no (e f p : Int) (hg : downB e f p = false) (w : World) : Calls Try.prog 10 #[fmt e f, .int .i64 p] w fun rv w' => rv = .returned (.tuple #[.int .i64 0, .bool false]) ∧ Ext w w' := by
  cases hn : numB e f p
  · go_enter Try.func10, Try.ntmps10
    go_wp2_with fail
    first | (go_region_with ((go_at_call 40; refine (fmNumber_is e f _ false hn _).mono ?_; rintro rv w1 ⟨rfl, hb⟩; have ns : w.heap.size < w1.heap.size := hb.ltK; have n0 : w1.cell? ⟨w.heap.size, 0, none⟩ = some (.int .i64 e) := hb.cellK; have n1 : w1.cell? ⟨w.heap.size, 1, none⟩ = some (.int .i64 f) := hb.cellK; (first | (have nx := hx.trK hb; clear hx) | have nx := hb); clear hb; try clear hs; try clear g0; try clear g1; have hx := nx; clear nx; have hs := ns; clear ns; have g0 := n0; clear n0; have g1 := n1; clear n1))) | fail
    all_goals
      go_wp2
      go_ret2
      exact ⟨rfl, Ext.auK⟩
  · have hp := num_pat hn
    have hp2 := hp
    have hp3 := hp
    obtain ⟨hg0, p0, _⟩ := pat_iff.1 hp
    have hip := inf_pat e f hg0
    have hi : (p == negV e f ((pw e - 1) * pw f)) = true := by unfold downB at hg; rw [hp, down_iff e f p hp, hn] at hg; simpa using hg
    go_enter Try.func10, Try.ntmps10
    go_wp2_with fail
    go_region_held3 (fun w' => w'.cell? ⟨w.heap.size, 0, none⟩ = some (.int .i64 e) ∧ w'.cell? ⟨w.heap.size, 1, none⟩ = some (.int .i64 f) ∧ w.heap.size < w'.heap.size) ((refine ⟨?_, ?_, ?_⟩ <;> first | with_reducible assumption | ((rw [cell_setRow_far _ _ _ _ _ (by omega)]); with_reducible assumption) | ((rw [setRow_size]); with_reducible assumption) | ((repeat rw [World.cell?_setCell_far _ _ _ _ (by simp)]); with_reducible assumption) | (simp; done) | (simp [World.setCell]; first | done | omega) | (simp [go_sem, World.cell?_alloc_past, World.cell?_setCell_far, *]; done))) ((first | (go_at_call 40; refine (fmNumber_any e f _ _).mono ?_; rintro rv w1 ⟨rfl, hb⟩; have ns : w.heap.size < w1.heap.size := hb.ltK; have n0 : w1.cell? ⟨w.heap.size, 0, none⟩ = some (.int .i64 e) := hb.cellK; have n1 : w1.cell? ⟨w.heap.size, 1, none⟩ = some (.int .i64 f) := hb.cellK; (first | (have nx := hx.trK hb; clear hx) | have nx := hb); clear hb; try clear hs; try clear g0; try clear g1; have hx := nx; clear nx; have hs := ns; clear ns; have g0 := n0; clear n0; have g1 := n1; clear n1) | (go_at_call 41; refine (fmInfinite_any e f hg0 _).mono ?_; rintro rv w1 ⟨rfl, hb⟩; have ns : w.heap.size < w1.heap.size := hb.ltK; have n0 : w1.cell? ⟨w.heap.size, 0, none⟩ = some (.int .i64 e) := hb.cellK; have n1 : w1.cell? ⟨w.heap.size, 1, none⟩ = some (.int .i64 f) := hb.cellK; (first | (have nx := hx.trK hb; clear hx) | have nx := hb); clear hb; try clear hs; try clear g0; try clear g1; have hx := nx; clear nx; have hs := ns; clear ns; have g0 := n0; clear n0; have g1 := n1; clear n1) | (go_at_call 43; refine (negateV_any e f _ (by first | exact hip | exact hp | exact hp2 | exact hp3) _).mono ?_; rintro rv w1 ⟨rfl, hb⟩; have ns : w.heap.size < w1.heap.size := hb.ltK; have n0 : w1.cell? ⟨w.heap.size, 0, none⟩ = some (.int .i64 e) := hb.cellK; have n1 : w1.cell? ⟨w.heap.size, 1, none⟩ = some (.int .i64 f) := hb.cellK; (first | (have nx := hx.trK hb; clear hx) | have nx := hb); clear hb; try clear hs; try clear g0; try clear g1; have hx := nx; clear nx; have hs := ns; clear ns; have g0 := n0; clear n0; have g1 := n1; clear n1)))
    go_wp2
    go_ret2
    exact ⟨rfl, Ext.auK⟩

theorem sNextDown_yes (e f p : Int) (hg : downB e f p = true) (w : World) : Calls Try.prog 10 #[fmt e f, .int .i64 p] w fun rv w' => rv = .returned (.tuple #[.int .i64 (downV e f p), .bool true]) ∧ Ext w w' := by
  obtain ⟨hp, hu⟩ : patB e f p = true ∧ upB e f (negV e f p) = true := by unfold downB at hg; simpa using hg
  have hu' := hu
  rw [down_iff e f p hp] at hu'
  obtain ⟨hn, hi⟩ : numB e f p = true ∧ (p == negV e f ((pw e - 1) * pw f)) = false := by simpa using hu'
  obtain ⟨hg0, p0, _⟩ := pat_iff.1 hp
  have hip := inf_pat e f hg0
  have hp2 := (neg_fact e f p hp).1
  have hp3 := up_pat e f _ hu
  clear hu'
  go_enter Try.func10, Try.ntmps10
  go_wp2_with fail
  go_region_held3 (fun w' => w'.cell? ⟨w.heap.size, 0, none⟩ = some (.int .i64 e) ∧ w'.cell? ⟨w.heap.size, 1, none⟩ = some (.int .i64 f) ∧ w.heap.size < w'.heap.size) ((refine ⟨?_, ?_, ?_⟩ <;> first | with_reducible assumption | ((rw [cell_setRow_far _ _ _ _ _ (by omega)]); with_reducible assumption) | ((rw [setRow_size]); with_reducible assumption) | ((repeat rw [World.cell?_setCell_far _ _ _ _ (by simp)]); with_reducible assumption) | (simp; done) | (simp [World.setCell]; first | done | omega) | (simp [go_sem, World.cell?_alloc_past, World.cell?_setCell_far, *]; done))) ((first | (go_at_call 40; refine (fmNumber_any e f _ _).mono ?_; rintro rv w1 ⟨rfl, hb⟩; have ns : w.heap.size < w1.heap.size := hb.ltK; have n0 : w1.cell? ⟨w.heap.size, 0, none⟩ = some (.int .i64 e) := hb.cellK; have n1 : w1.cell? ⟨w.heap.size, 1, none⟩ = some (.int .i64 f) := hb.cellK; (first | (have nx := hx.trK hb; clear hx) | have nx := hb); clear hb; try clear hs; try clear g0; try clear g1; have hx := nx; clear nx; have hs := ns; clear ns; have g0 := n0; clear n0; have g1 := n1; clear n1) | (go_at_call 41; refine (fmInfinite_any e f hg0 _).mono ?_; rintro rv w1 ⟨rfl, hb⟩; have ns : w.heap.size < w1.heap.size := hb.ltK; have n0 : w1.cell? ⟨w.heap.size, 0, none⟩ = some (.int .i64 e) := hb.cellK; have n1 : w1.cell? ⟨w.heap.size, 1, none⟩ = some (.int .i64 f) := hb.cellK; (first | (have nx := hx.trK hb; clear hx) | have nx := hb); clear hb; try clear hs; try clear g0; try clear g1; have hx := nx; clear nx; have hs := ns; clear ns; have g0 := n0; clear n0; have g1 := n1; clear n1) | (go_at_call 43; refine (negateV_any e f _ (by first | exact hip | exact hp | exact hp2 | exact hp3) _).mono ?_; rintro rv w1 ⟨rfl, hb⟩; have ns : w.heap.size < w1.heap.size := hb.ltK; have n0 : w1.cell? ⟨w.heap.size, 0, none⟩ = some (.int .i64 e) := hb.cellK; have n1 : w1.cell? ⟨w.heap.size, 1, none⟩ = some (.int .i64 f) := hb.cellK; (first | (have nx := hx.trK hb; clear hx) | have nx := hb); clear hb; try clear hs; try clear g0; try clear g1; have hx := nx; clear nx; have hs := ns; clear ns; have g0 := n0; clear n0; have g1 := n1; clear n1)))
  go_wp2
  go_region_held3 (fun w' => w'.cell? ⟨w.heap.size, 0, none⟩ = some (.int .i64 e) ∧ w'.cell? ⟨w.heap.size, 1, none⟩ = some (.int .i64 f) ∧ w.heap.size < w'.heap.size) ((refine ⟨?_, ?_, ?_⟩ <;> first | with_reducible assumption | ((rw [cell_setRow_far _ _ _ _ _ (by omega)]); with_reducible assumption) | ((rw [setRow_size]); with_reducible assumption) | ((repeat rw [World.cell?_setCell_far _ _ _ _ (by simp)]); with_reducible assumption) | (simp; done) | (simp [World.setCell]; first | done | omega) | (simp [go_sem, World.cell?_alloc_past, World.cell?_setCell_far, *]; done))) ((first | (go_at_call 43; refine (negateV_any e f _ (by first | exact hip | exact hp | exact hp2 | exact hp3) _).mono ?_; rintro rv w1 ⟨rfl, hb⟩; have ns : w.heap.size < w1.heap.size := hb.ltK; have n0 : w1.cell? ⟨w.heap.size, 0, none⟩ = some (.int .i64 e) := hb.cellK; have n1 : w1.cell? ⟨w.heap.size, 1, none⟩ = some (.int .i64 f) := hb.cellK; (first | (have nx := hx.trK hb; clear hx) | have nx := hb); clear hb; try clear hs; try clear g0; try clear g1; have hx := nx; clear nx; have hs := ns; clear ns; have g0 := n0; clear n0; have g1 := n1; clear n1) | (go_at_call 42; refine (fmUp_any e f _ (by exact hp2) _).mono ?_; rintro rv w1 ⟨rfl, hb⟩; have ns : w.heap.size < w1.heap.size := hb.ltK; have n0 : w1.cell? ⟨w.heap.size, 0, none⟩ = some (.int .i64 e) := hb.cellK; have n1 : w1.cell? ⟨w.heap.size, 1, none⟩ = some (.int .i64 f) := hb.cellK; (first | (have nx := hx.trK hb; clear hx) | have nx := hb); clear hb; try clear hs; try clear g0; try clear g1; have hx := nx; clear nx; have hs := ns; clear ns; have g0 := n0; clear n0; have g1 := n1; clear n1)))
  go_wp2
  go_ret2
  exact ⟨rfl, Ext.auK⟩
end Go.Proofs.Ytmddlbphanlfhaa

namespace Go.Proofs.Ytmddlbphanlfhaa
open Go Go.RowKit
set_option linter.unusedSimpArgs false
set_option linter.unusedVariables false

theorem key_fact (e f p : Int) (hp : patB e f p = true) : 0 ≤ p % pw (e + f) ∧ (keyV e f p = p % pw (e + f) ∨ keyV e f p = -1 - p % pw (e + f)) := by
  obtain ⟨⟨s0, s1⟩, ⟨z0, z1⟩, _, _, hsum⟩ := field_bd e f p hp
  refine ⟨z0, ?_⟩
  unfold keyV
  have hs : p / pw (e + f) = 0 ∨ p / pw (e + f) = 1 := by omega
  rcases hs with h | h
  · rw [h] at hsum ⊢; left; simp only [beq_self_eq_true, if_true]; omega
  · rw [h]; right; rfl

theorem vk_fact (e f p : Int) : (p % pw (e + f) = 0 ∧ vkV e f p = 0) ∨ (¬ p % pw (e + f) = 0 ∧ vkV e f p = keyV e f p) := by
  unfold vkV
  by_cases h : p % pw (e + f) = 0
  · left; simp [h]
  · right; simp [h]

theorem cmp_fact (e f a b : Int) (ha : patB e f a = true) (hb : patB e f b = true) :
    (keyV e f a = keyV e f b ∨ (a % pw (e + f) = 0 ∧ b % pw (e + f) = 0) → cmpV (vkV e f a) (vkV e f b) = 0) ∧
    (¬ (keyV e f a = keyV e f b ∨ (a % pw (e + f) = 0 ∧ b % pw (e + f) = 0)) → keyV e f a < keyV e f b → cmpV (vkV e f a) (vkV e f b) = -1) ∧
    (¬ (keyV e f a = keyV e f b ∨ (a % pw (e + f) = 0 ∧ b % pw (e + f) = 0)) → ¬ keyV e f a < keyV e f b → cmpV (vkV e f a) (vkV e f b) = 1) := by
  obtain ⟨p0, pa⟩ := key_fact e f a ha
  obtain ⟨q0, qb⟩ := key_fact e f b hb
  have va := vk_fact e f a
  have vb := vk_fact e f b
  generalize keyV e f a = ka at *
  generalize keyV e f b = kb at *
  generalize vkV e f a = xa at *
  generalize vkV e f b = xb at *
  generalize a % pw (e + f) = za at *
  generalize b % pw (e + f) = zb at *
  unfold cmpV
  refine ⟨fun h => ?_, fun h h' => ?_, fun h h' => ?_⟩ <;> split <;> (try split) <;> omega

theorem sCompareOf_no (e f a b : Int) (hg : cmpB e f a b = false) (w : World) : Calls Try.prog 16 #[fmt e f, .int .i64 a, .int .i64 b] w fun rv w' => rv = .returned (.tuple #[.int .i64 0, .bool false]) ∧ Ext w w' := by
  cases ha : numB e f a
  · go_enter Try.func16, Try.ntmps16
    go_wp2_with (go_at_call 40; refine (fmNumber_any e f a _).mono ?_; rintro rv w1 ⟨rfl, hb⟩; have ns : w.heap.size < w1.heap.size := hb.ltK; have n0 : w1.cell? ⟨w.heap.size, 0, none⟩ = some (.int .i64 e) := hb.cellK; have n1 : w1.cell? ⟨w.heap.size, 1, none⟩ = some (.int .i64 f) := hb.cellK; (first | (have nx := hx.trK hb; clear hx) | have nx := hb); clear hb; try clear hs; try clear g0; try clear g1; have hx := nx; clear nx; have hs := ns; clear ns; have g0 := n0; clear n0; have g1 := n1; clear n1)
    go_ret2
    exact ⟨rfl, Ext.auK⟩
  · have hb0 : numB e f b = false := by unfold cmpB at hg; rw [ha] at hg; simpa using hg
    go_enter Try.func16, Try.ntmps16
    go_wp2_with fail
    (go_at_call 40; refine (fmNumber_any e f a _).mono ?_; rintro rv w1 ⟨rfl, hb⟩; have ns : w.heap.size < w1.heap.size := hb.ltK; have n0 : w1.cell? ⟨w.heap.size, 0, none⟩ = some (.int .i64 e) := hb.cellK; have n1 : w1.cell? ⟨w.heap.size, 1, none⟩ = some (.int .i64 f) := hb.cellK; (first | (have nx := hx.trK hb; clear hx) | have nx := hb); clear hb; try clear hs; try clear g0; try clear g1; have hx := nx; clear nx; have hs := ns; clear ns; have g0 := n0; clear n0; have g1 := n1; clear n1)
    go_wp2_with fail
    (go_at_call 40; refine (fmNumber_any e f b _).mono ?_; rintro rv w1 ⟨rfl, hb⟩; have ns : w.heap.size < w1.heap.size := hb.ltK; have n0 : w1.cell? ⟨w.heap.size, 0, none⟩ = some (.int .i64 e) := hb.cellK; have n1 : w1.cell? ⟨w.heap.size, 1, none⟩ = some (.int .i64 f) := hb.cellK; (first | (have nx := hx.trK hb; clear hx) | have nx := hb); clear hb; try clear hs; try clear g0; try clear g1; have hx := nx; clear nx; have hs := ns; clear ns; have g0 := n0; clear n0; have g1 := n1; clear n1)
    go_wp2_with fail
    go_ret2
    exact ⟨rfl, Ext.auK⟩

set_option maxHeartbeats 1600000 in
theorem sCompareOf_yes (e f a b : Int) (hg : cmpB e f a b = true) (w : World) : Calls Try.prog 16 #[fmt e f, .int .i64 a, .int .i64 b] w fun rv w' => rv = .returned (.tuple #[.int .i64 (cmpV (vkV e f a) (vkV e f b)), .bool true]) ∧ Ext w w' := by
  obtain ⟨ha, hb⟩ : numB e f a = true ∧ numB e f b = true := by unfold cmpB at hg; simpa using hg
  obtain ⟨f1, f2, f3⟩ := cmp_fact e f a b (num_pat ha) (num_pat hb)
  obtain ⟨hg0, a0, _⟩ := pat_iff.1 (num_pat ha)
  obtain ⟨_, b0, _⟩ := pat_iff.1 (num_pat hb)
  have F1 := Lib.hid f1; have F2 := Lib.hid f2; have F3 := Lib.hid f3
  clear f1 f2 f3
  have q1 : (keyV e f a == keyV e f b) = true → keyV e f a = keyV e f b := by simp
  have q2 : (keyV e f a == keyV e f b) = false → ¬ keyV e f a = keyV e f b := by simp
  have q3 : (a % pw (e + f) == 0) = true → a % pw (e + f) = 0 := by simp
  have q4 : (a % pw (e + f) == 0) = false → ¬ a % pw (e + f) = 0 := by simp
  have q5 : (b % pw (e + f) == 0) = true → b % pw (e + f) = 0 := by simp
  have q6 : (b % pw (e + f) == 0) = false → ¬ b % pw (e + f) = 0 := by simp
  cases d1 : (keyV e f a == keyV e f b)
  · have Q := Lib.hid (q2 d1)
    cases d2 : (a % pw (e + f) == 0)
    · have Q4 := Lib.hid (q4 d2)
      clear q1 q2 q3 q4 q5 q6
      by_cases d4 : keyV e f a < keyV e f b
      · have hk := F2.out (fun h => h.elim Q.out (fun h => Q4.out h.1)) d4
        have Hk := Lib.hid hk
        clear hk F1 F2 F3
        go_enter Try.func16, Try.ntmps16
        go_wp2_with fail
        (go_at_call 40; refine (fmNumber_any e f a _).mono ?_; rintro rv w1 ⟨rfl, hb⟩; have ns : w.heap.size < w1.heap.size := hb.ltK; have n0 : w1.cell? ⟨w.heap.size, 0, none⟩ = some (.int .i64 e) := hb.cellK; have n1 : w1.cell? ⟨w.heap.size, 1, none⟩ = some (.int .i64 f) := hb.cellK; (first | (have nx := hx.trK hb; clear hx) | have nx := hb); clear hb; try clear hs; try clear g0; try clear g1; have hx := nx; clear nx; have hs := ns; clear ns; have g0 := n0; clear n0; have g1 := n1; clear n1)
        go_wp2_with fail
        (go_at_call 40; refine (fmNumber_any e f b _).mono ?_; rintro rv w1 ⟨rfl, hb⟩; have ns : w.heap.size < w1.heap.size := hb.ltK; have n0 : w1.cell? ⟨w.heap.size, 0, none⟩ = some (.int .i64 e) := hb.cellK; have n1 : w1.cell? ⟨w.heap.size, 1, none⟩ = some (.int .i64 f) := hb.cellK; (first | (have nx := hx.trK hb; clear hx) | have nx := hb); clear hb; try clear hs; try clear g0; try clear g1; have hx := nx; clear nx; have hs := ns; clear ns; have g0 := n0; clear n0; have g1 := n1; clear n1)
        go_wp2_with fail
        go_region_held3 (fun w' => w'.cell? ⟨w.heap.size, 0, none⟩ = some (.int .i64 e) ∧ w'.cell? ⟨w.heap.size, 1, none⟩ = some (.int .i64 f) ∧ w.heap.size < w'.heap.size) ((refine ⟨?_, ?_, ?_⟩ <;> first | with_reducible assumption | ((rw [cell_setRow_far _ _ _ _ _ (by omega)]); with_reducible assumption) | ((rw [setRow_size]); with_reducible assumption) | ((repeat rw [World.cell?_setCell_far _ _ _ _ (by simp)]); with_reducible assumption) | (simp; done) | (simp [World.setCell]; first | done | omega) | (simp [go_sem, World.cell?_alloc_past, World.cell?_setCell_far, *]; done))) ((first | (go_at_call 45; refine (fmKey_any e f _ (by first | exact num_pat ha | exact num_pat hb) _).mono ?_; rintro rv w1 ⟨rfl, hb⟩; have ns : w.heap.size < w1.heap.size := hb.ltK; have n0 : w1.cell? ⟨w.heap.size, 0, none⟩ = some (.int .i64 e) := hb.cellK; have n1 : w1.cell? ⟨w.heap.size, 1, none⟩ = some (.int .i64 f) := hb.cellK; (first | (have nx := hx.trK hb; clear hx) | have nx := hb); clear hb; try clear hs; try clear g0; try clear g1; have hx := nx; clear nx; have hs := ns; clear ns; have g0 := n0; clear n0; have g1 := n1; clear n1)))
        go_wp2_with (go_at_call 50; refine (fmSize_any e f _ hg0 (by first | exact a0 | exact b0) _).mono ?_; rintro rv w1 ⟨rfl, hb⟩; have ns : w.heap.size < w1.heap.size := hb.ltK; have n0 : w1.cell? ⟨w.heap.size, 0, none⟩ = some (.int .i64 e) := hb.cellK; have n1 : w1.cell? ⟨w.heap.size, 1, none⟩ = some (.int .i64 f) := hb.cellK; (first | (have nx := hx.trK hb; clear hx) | have nx := hb); clear hb; try clear hs; try clear g0; try clear g1; have hx := nx; clear nx; have hs := ns; clear ns; have g0 := n0; clear n0; have g1 := n1; clear n1)
        go_ret2
        exact ⟨ret_ib Hk.out.symm, Ext.auK⟩
      · have hk := F3.out (fun h => h.elim Q.out (fun h => Q4.out h.1)) d4
        have Hk := Lib.hid hk
        clear hk F1 F2 F3
        go_enter Try.func16, Try.ntmps16
        go_wp2_with fail
        (go_at_call 40; refine (fmNumber_any e f a _).mono ?_; rintro rv w1 ⟨rfl, hb⟩; have ns : w.heap.size < w1.heap.size := hb.ltK; have n0 : w1.cell? ⟨w.heap.size, 0, none⟩ = some (.int .i64 e) := hb.cellK; have n1 : w1.cell? ⟨w.heap.size, 1, none⟩ = some (.int .i64 f) := hb.cellK; (first | (have nx := hx.trK hb; clear hx) | have nx := hb); clear hb; try clear hs; try clear g0; try clear g1; have hx := nx; clear nx; have hs := ns; clear ns; have g0 := n0; clear n0; have g1 := n1; clear n1)
        go_wp2_with fail
        (go_at_call 40; refine (fmNumber_any e f b _).mono ?_; rintro rv w1 ⟨rfl, hb⟩; have ns : w.heap.size < w1.heap.size := hb.ltK; have n0 : w1.cell? ⟨w.heap.size, 0, none⟩ = some (.int .i64 e) := hb.cellK; have n1 : w1.cell? ⟨w.heap.size, 1, none⟩ = some (.int .i64 f) := hb.cellK; (first | (have nx := hx.trK hb; clear hx) | have nx := hb); clear hb; try clear hs; try clear g0; try clear g1; have hx := nx; clear nx; have hs := ns; clear ns; have g0 := n0; clear n0; have g1 := n1; clear n1)
        go_wp2_with fail
        go_region_held3 (fun w' => w'.cell? ⟨w.heap.size, 0, none⟩ = some (.int .i64 e) ∧ w'.cell? ⟨w.heap.size, 1, none⟩ = some (.int .i64 f) ∧ w.heap.size < w'.heap.size) ((refine ⟨?_, ?_, ?_⟩ <;> first | with_reducible assumption | ((rw [cell_setRow_far _ _ _ _ _ (by omega)]); with_reducible assumption) | ((rw [setRow_size]); with_reducible assumption) | ((repeat rw [World.cell?_setCell_far _ _ _ _ (by simp)]); with_reducible assumption) | (simp; done) | (simp [World.setCell]; first | done | omega) | (simp [go_sem, World.cell?_alloc_past, World.cell?_setCell_far, *]; done))) ((first | (go_at_call 45; refine (fmKey_any e f _ (by first | exact num_pat ha | exact num_pat hb) _).mono ?_; rintro rv w1 ⟨rfl, hb⟩; have ns : w.heap.size < w1.heap.size := hb.ltK; have n0 : w1.cell? ⟨w.heap.size, 0, none⟩ = some (.int .i64 e) := hb.cellK; have n1 : w1.cell? ⟨w.heap.size, 1, none⟩ = some (.int .i64 f) := hb.cellK; (first | (have nx := hx.trK hb; clear hx) | have nx := hb); clear hb; try clear hs; try clear g0; try clear g1; have hx := nx; clear nx; have hs := ns; clear ns; have g0 := n0; clear n0; have g1 := n1; clear n1)))
        go_wp2_with (go_at_call 50; refine (fmSize_any e f _ hg0 (by first | exact a0 | exact b0) _).mono ?_; rintro rv w1 ⟨rfl, hb⟩; have ns : w.heap.size < w1.heap.size := hb.ltK; have n0 : w1.cell? ⟨w.heap.size, 0, none⟩ = some (.int .i64 e) := hb.cellK; have n1 : w1.cell? ⟨w.heap.size, 1, none⟩ = some (.int .i64 f) := hb.cellK; (first | (have nx := hx.trK hb; clear hx) | have nx := hb); clear hb; try clear hs; try clear g0; try clear g1; have hx := nx; clear nx; have hs := ns; clear ns; have g0 := n0; clear n0; have g1 := n1; clear n1)
        go_ret2
        exact ⟨ret_ib Hk.out.symm, Ext.auK⟩
    · have Q3 := Lib.hid (q3 d2)
      cases d3 : (b % pw (e + f) == 0)
      · have Q6 := Lib.hid (q6 d3)
        clear q1 q2 q3 q4 q5 q6
        by_cases d4 : keyV e f a < keyV e f b
        · have hk := F2.out (fun h => h.elim Q.out (fun h => Q6.out h.2)) d4
          have Hk := Lib.hid hk
          clear hk F1 F2 F3
          go_enter Try.func16, Try.ntmps16
          go_wp2_with fail
          (go_at_call 40; refine (fmNumber_any e f a _).mono ?_; rintro rv w1 ⟨rfl, hb⟩; have ns : w.heap.size < w1.heap.size := hb.ltK; have n0 : w1.cell? ⟨w.heap.size, 0, none⟩ = some (.int .i64 e) := hb.cellK; have n1 : w1.cell? ⟨w.heap.size, 1, none⟩ = some (.int .i64 f) := hb.cellK; (first | (have nx := hx.trK hb; clear hx) | have nx := hb); clear hb; try clear hs; try clear g0; try clear g1; have hx := nx; clear nx; have hs := ns; clear ns; have g0 := n0; clear n0; have g1 := n1; clear n1)
          go_wp2_with fail
          (go_at_call 40; refine (fmNumber_any e f b _).mono ?_; rintro rv w1 ⟨rfl, hb⟩; have ns : w.heap.size < w1.heap.size := hb.ltK; have n0 : w1.cell? ⟨w.heap.size, 0, none⟩ = some (.int .i64 e) := hb.cellK; have n1 : w1.cell? ⟨w.heap.size, 1, none⟩ = some (.int .i64 f) := hb.cellK; (first | (have nx := hx.trK hb; clear hx) | have nx := hb); clear hb; try clear hs; try clear g0; try clear g1; have hx := nx; clear nx; have hs := ns; clear ns; have g0 := n0; clear n0; have g1 := n1; clear n1)
          go_wp2_with fail
          go_region_held3 (fun w' => w'.cell? ⟨w.heap.size, 0, none⟩ = some (.int .i64 e) ∧ w'.cell? ⟨w.heap.size, 1, none⟩ = some (.int .i64 f) ∧ w.heap.size < w'.heap.size) ((refine ⟨?_, ?_, ?_⟩ <;> first | with_reducible assumption | ((rw [cell_setRow_far _ _ _ _ _ (by omega)]); with_reducible assumption) | ((rw [setRow_size]); with_reducible assumption) | ((repeat rw [World.cell?_setCell_far _ _ _ _ (by simp)]); with_reducible assumption) | (simp; done) | (simp [World.setCell]; first | done | omega) | (simp [go_sem, World.cell?_alloc_past, World.cell?_setCell_far, *]; done))) ((first | (go_at_call 45; refine (fmKey_any e f _ (by first | exact num_pat ha | exact num_pat hb) _).mono ?_; rintro rv w1 ⟨rfl, hb⟩; have ns : w.heap.size < w1.heap.size := hb.ltK; have n0 : w1.cell? ⟨w.heap.size, 0, none⟩ = some (.int .i64 e) := hb.cellK; have n1 : w1.cell? ⟨w.heap.size, 1, none⟩ = some (.int .i64 f) := hb.cellK; (first | (have nx := hx.trK hb; clear hx) | have nx := hb); clear hb; try clear hs; try clear g0; try clear g1; have hx := nx; clear nx; have hs := ns; clear ns; have g0 := n0; clear n0; have g1 := n1; clear n1)))
          go_wp2_with (go_at_call 50; refine (fmSize_any e f _ hg0 (by first | exact a0 | exact b0) _).mono ?_; rintro rv w1 ⟨rfl, hb⟩; have ns : w.heap.size < w1.heap.size := hb.ltK; have n0 : w1.cell? ⟨w.heap.size, 0, none⟩ = some (.int .i64 e) := hb.cellK; have n1 : w1.cell? ⟨w.heap.size, 1, none⟩ = some (.int .i64 f) := hb.cellK; (first | (have nx := hx.trK hb; clear hx) | have nx := hb); clear hb; try clear hs; try clear g0; try clear g1; have hx := nx; clear nx; have hs := ns; clear ns; have g0 := n0; clear n0; have g1 := n1; clear n1)
          go_ret2
          exact ⟨ret_ib Hk.out.symm, Ext.auK⟩
        · have hk := F3.out (fun h => h.elim Q.out (fun h => Q6.out h.2)) d4
          have Hk := Lib.hid hk
          clear hk F1 F2 F3
          go_enter Try.func16, Try.ntmps16
          go_wp2_with fail
          (go_at_call 40; refine (fmNumber_any e f a _).mono ?_; rintro rv w1 ⟨rfl, hb⟩; have ns : w.heap.size < w1.heap.size := hb.ltK; have n0 : w1.cell? ⟨w.heap.size, 0, none⟩ = some (.int .i64 e) := hb.cellK; have n1 : w1.cell? ⟨w.heap.size, 1, none⟩ = some (.int .i64 f) := hb.cellK; (first | (have nx := hx.trK hb; clear hx) | have nx := hb); clear hb; try clear hs; try clear g0; try clear g1; have hx := nx; clear nx; have hs := ns; clear ns; have g0 := n0; clear n0; have g1 := n1; clear n1)
          go_wp2_with fail
          (go_at_call 40; refine (fmNumber_any e f b _).mono ?_; rintro rv w1 ⟨rfl, hb⟩; have ns : w.heap.size < w1.heap.size := hb.ltK; have n0 : w1.cell? ⟨w.heap.size, 0, none⟩ = some (.int .i64 e) := hb.cellK; have n1 : w1.cell? ⟨w.heap.size, 1, none⟩ = some (.int .i64 f) := hb.cellK; (first | (have nx := hx.trK hb; clear hx) | have nx := hb); clear hb; try clear hs; try clear g0; try clear g1; have hx := nx; clear nx; have hs := ns; clear ns; have g0 := n0; clear n0; have g1 := n1; clear n1)
          go_wp2_with fail
          go_region_held3 (fun w' => w'.cell? ⟨w.heap.size, 0, none⟩ = some (.int .i64 e) ∧ w'.cell? ⟨w.heap.size, 1, none⟩ = some (.int .i64 f) ∧ w.heap.size < w'.heap.size) ((refine ⟨?_, ?_, ?_⟩ <;> first | with_reducible assumption | ((rw [cell_setRow_far _ _ _ _ _ (by omega)]); with_reducible assumption) | ((rw [setRow_size]); with_reducible assumption) | ((repeat rw [World.cell?_setCell_far _ _ _ _ (by simp)]); with_reducible assumption) | (simp; done) | (simp [World.setCell]; first | done | omega) | (simp [go_sem, World.cell?_alloc_past, World.cell?_setCell_far, *]; done))) ((first | (go_at_call 45; refine (fmKey_any e f _ (by first | exact num_pat ha | exact num_pat hb) _).mono ?_; rintro rv w1 ⟨rfl, hb⟩; have ns : w.heap.size < w1.heap.size := hb.ltK; have n0 : w1.cell? ⟨w.heap.size, 0, none⟩ = some (.int .i64 e) := hb.cellK; have n1 : w1.cell? ⟨w.heap.size, 1, none⟩ = some (.int .i64 f) := hb.cellK; (first | (have nx := hx.trK hb; clear hx) | have nx := hb); clear hb; try clear hs; try clear g0; try clear g1; have hx := nx; clear nx; have hs := ns; clear ns; have g0 := n0; clear n0; have g1 := n1; clear n1)))
          go_wp2_with (go_at_call 50; refine (fmSize_any e f _ hg0 (by first | exact a0 | exact b0) _).mono ?_; rintro rv w1 ⟨rfl, hb⟩; have ns : w.heap.size < w1.heap.size := hb.ltK; have n0 : w1.cell? ⟨w.heap.size, 0, none⟩ = some (.int .i64 e) := hb.cellK; have n1 : w1.cell? ⟨w.heap.size, 1, none⟩ = some (.int .i64 f) := hb.cellK; (first | (have nx := hx.trK hb; clear hx) | have nx := hb); clear hb; try clear hs; try clear g0; try clear g1; have hx := nx; clear nx; have hs := ns; clear ns; have g0 := n0; clear n0; have g1 := n1; clear n1)
          go_ret2
          exact ⟨ret_ib Hk.out.symm, Ext.auK⟩
      · have Q5 := Lib.hid (q5 d3)
        clear q1 q2 q3 q4 q5 q6
        have hk := F1.out (.inr ⟨Q3.out, Q5.out⟩)
        have Hk := Lib.hid hk
        clear hk F1 F2 F3
        go_enter Try.func16, Try.ntmps16
        go_wp2_with fail
        (go_at_call 40; refine (fmNumber_any e f a _).mono ?_; rintro rv w1 ⟨rfl, hb⟩; have ns : w.heap.size < w1.heap.size := hb.ltK; have n0 : w1.cell? ⟨w.heap.size, 0, none⟩ = some (.int .i64 e) := hb.cellK; have n1 : w1.cell? ⟨w.heap.size, 1, none⟩ = some (.int .i64 f) := hb.cellK; (first | (have nx := hx.trK hb; clear hx) | have nx := hb); clear hb; try clear hs; try clear g0; try clear g1; have hx := nx; clear nx; have hs := ns; clear ns; have g0 := n0; clear n0; have g1 := n1; clear n1)
        go_wp2_with fail
        (go_at_call 40; refine (fmNumber_any e f b _).mono ?_; rintro rv w1 ⟨rfl, hb⟩; have ns : w.heap.size < w1.heap.size := hb.ltK; have n0 : w1.cell? ⟨w.heap.size, 0, none⟩ = some (.int .i64 e) := hb.cellK; have n1 : w1.cell? ⟨w.heap.size, 1, none⟩ = some (.int .i64 f) := hb.cellK; (first | (have nx := hx.trK hb; clear hx) | have nx := hb); clear hb; try clear hs; try clear g0; try clear g1; have hx := nx; clear nx; have hs := ns; clear ns; have g0 := n0; clear n0; have g1 := n1; clear n1)
        go_wp2_with fail
        go_region_held3 (fun w' => w'.cell? ⟨w.heap.size, 0, none⟩ = some (.int .i64 e) ∧ w'.cell? ⟨w.heap.size, 1, none⟩ = some (.int .i64 f) ∧ w.heap.size < w'.heap.size) ((refine ⟨?_, ?_, ?_⟩ <;> first | with_reducible assumption | ((rw [cell_setRow_far _ _ _ _ _ (by omega)]); with_reducible assumption) | ((rw [setRow_size]); with_reducible assumption) | ((repeat rw [World.cell?_setCell_far _ _ _ _ (by simp)]); with_reducible assumption) | (simp; done) | (simp [World.setCell]; first | done | omega) | (simp [go_sem, World.cell?_alloc_past, World.cell?_setCell_far, *]; done))) ((first | (go_at_call 45; refine (fmKey_any e f _ (by first | exact num_pat ha | exact num_pat hb) _).mono ?_; rintro rv w1 ⟨rfl, hb⟩; have ns : w.heap.size < w1.heap.size := hb.ltK; have n0 : w1.cell? ⟨w.heap.size, 0, none⟩ = some (.int .i64 e) := hb.cellK; have n1 : w1.cell? ⟨w.heap.size, 1, none⟩ = some (.int .i64 f) := hb.cellK; (first | (have nx := hx.trK hb; clear hx) | have nx := hb); clear hb; try clear hs; try clear g0; try clear g1; have hx := nx; clear nx; have hs := ns; clear ns; have g0 := n0; clear n0; have g1 := n1; clear n1)))
        go_wp2_with (go_at_call 50; refine (fmSize_any e f _ hg0 (by first | exact a0 | exact b0) _).mono ?_; rintro rv w1 ⟨rfl, hb⟩; have ns : w.heap.size < w1.heap.size := hb.ltK; have n0 : w1.cell? ⟨w.heap.size, 0, none⟩ = some (.int .i64 e) := hb.cellK; have n1 : w1.cell? ⟨w.heap.size, 1, none⟩ = some (.int .i64 f) := hb.cellK; (first | (have nx := hx.trK hb; clear hx) | have nx := hb); clear hb; try clear hs; try clear g0; try clear g1; have hx := nx; clear nx; have hs := ns; clear ns; have g0 := n0; clear n0; have g1 := n1; clear n1)
        go_ret2
        exact ⟨ret_ib Hk.out.symm, Ext.auK⟩
  · have Q := Lib.hid (q1 d1)
    clear q1 q2 q3 q4 q5 q6
    have hk := F1.out (.inl Q.out)
    have Hk := Lib.hid hk
    clear hk F1 F2 F3
    go_enter Try.func16, Try.ntmps16
    go_wp2_with fail
    (go_at_call 40; refine (fmNumber_any e f a _).mono ?_; rintro rv w1 ⟨rfl, hb⟩; have ns : w.heap.size < w1.heap.size := hb.ltK; have n0 : w1.cell? ⟨w.heap.size, 0, none⟩ = some (.int .i64 e) := hb.cellK; have n1 : w1.cell? ⟨w.heap.size, 1, none⟩ = some (.int .i64 f) := hb.cellK; (first | (have nx := hx.trK hb; clear hx) | have nx := hb); clear hb; try clear hs; try clear g0; try clear g1; have hx := nx; clear nx; have hs := ns; clear ns; have g0 := n0; clear n0; have g1 := n1; clear n1)
    go_wp2_with fail
    (go_at_call 40; refine (fmNumber_any e f b _).mono ?_; rintro rv w1 ⟨rfl, hb⟩; have ns : w.heap.size < w1.heap.size := hb.ltK; have n0 : w1.cell? ⟨w.heap.size, 0, none⟩ = some (.int .i64 e) := hb.cellK; have n1 : w1.cell? ⟨w.heap.size, 1, none⟩ = some (.int .i64 f) := hb.cellK; (first | (have nx := hx.trK hb; clear hx) | have nx := hb); clear hb; try clear hs; try clear g0; try clear g1; have hx := nx; clear nx; have hs := ns; clear ns; have g0 := n0; clear n0; have g1 := n1; clear n1)
    go_wp2_with fail
    go_region_held3 (fun w' => w'.cell? ⟨w.heap.size, 0, none⟩ = some (.int .i64 e) ∧ w'.cell? ⟨w.heap.size, 1, none⟩ = some (.int .i64 f) ∧ w.heap.size < w'.heap.size) ((refine ⟨?_, ?_, ?_⟩ <;> first | with_reducible assumption | ((rw [cell_setRow_far _ _ _ _ _ (by omega)]); with_reducible assumption) | ((rw [setRow_size]); with_reducible assumption) | ((repeat rw [World.cell?_setCell_far _ _ _ _ (by simp)]); with_reducible assumption) | (simp; done) | (simp [World.setCell]; first | done | omega) | (simp [go_sem, World.cell?_alloc_past, World.cell?_setCell_far, *]; done))) ((first | (go_at_call 45; refine (fmKey_any e f _ (by first | exact num_pat ha | exact num_pat hb) _).mono ?_; rintro rv w1 ⟨rfl, hb⟩; have ns : w.heap.size < w1.heap.size := hb.ltK; have n0 : w1.cell? ⟨w.heap.size, 0, none⟩ = some (.int .i64 e) := hb.cellK; have n1 : w1.cell? ⟨w.heap.size, 1, none⟩ = some (.int .i64 f) := hb.cellK; (first | (have nx := hx.trK hb; clear hx) | have nx := hb); clear hb; try clear hs; try clear g0; try clear g1; have hx := nx; clear nx; have hs := ns; clear ns; have g0 := n0; clear n0; have g1 := n1; clear n1)))
    go_wp2_with (go_at_call 50; refine (fmSize_any e f _ hg0 (by first | exact a0 | exact b0) _).mono ?_; rintro rv w1 ⟨rfl, hb⟩; have ns : w.heap.size < w1.heap.size := hb.ltK; have n0 : w1.cell? ⟨w.heap.size, 0, none⟩ = some (.int .i64 e) := hb.cellK; have n1 : w1.cell? ⟨w.heap.size, 1, none⟩ = some (.int .i64 f) := hb.cellK; (first | (have nx := hx.trK hb; clear hx) | have nx := hb); clear hb; try clear hs; try clear g0; try clear g1; have hx := nx; clear nx; have hs := ns; clear ns; have g0 := n0; clear n0; have g1 := n1; clear n1)
    go_ret2
    exact ⟨ret_ib Hk.out.symm, Ext.auK⟩
end Go.Proofs.Ytmddlbphanlfhaa

namespace Go.Proofs.Ytmddlbphanlfhaa
open Go Go.RowKit
set_option linter.unusedSimpArgs false
set_option linter.unusedVariables false

theorem units_mg (e f p : Int) (hp : patB e f p = true) (h : p < pw (e + f)) : unitsV e f p = mgV f p := by
  obtain ⟨_, p0, _⟩ := pat_iff.1 hp
  have e1 : p % pw (e + f) = p := Int.emod_eq_of_lt p0 h
  have e2 : p / pw (e + f) = 0 := Int.ediv_eq_zero_of_lt p0 h
  unfold unitsV magV mgV
  rw [e1, e2]
  rfl

theorem great_lt {e f : Int} (hg : goodB e f = true) : 0 ≤ (pw e - 1) * pw f - 1 ∧ (pw e - 1) * pw f - 1 < pw (e + f) := by
  obtain ⟨h1, h2, h3, h4⟩ := good_iff.1 hg
  obtain ⟨⟨a1, a2⟩, ⟨b1, b2⟩, ⟨c1, c2⟩, hmul⟩ := pw_facts h1 h2 h3 h4
  have h : 3 * 2 ≤ (pw e - 1) * pw f := Int.mul_le_mul (by omega) c1 (by omega) (by omega)
  refine ⟨by omega, ?_⟩
  rw [Int.sub_mul, ← hmul]; omega

/-- What the search hands back. -/
def BelowOut (e f u : Int) (w : World) (rv : Ending) (w' : World) : Prop := ∃ p : Int, rv = .returned (.int .i64 p) ∧ IsBelow f ((pw e - 1) * pw f - 1) u p ∧ Ext w w'

set_option maxHeartbeats 3200000 in
theorem fmBelow_any (e f u : Int) (hg : goodB e f = true) (hu : 0 ≤ u) (w : World) : Calls Try.prog 60 #[fmt e f, .int .i64 u] w (BelowOut e f u w) := by
  obtain ⟨h1, h2, h3, h4⟩ := good_iff.1 hg
  obtain ⟨⟨a1, a2⟩, ⟨b1, b2⟩, ⟨c1, c2⟩, hmul⟩ := pw_facts h1 h2 h3 h4
  have Hmul := Lib.hid hmul; clear hmul
  obtain ⟨g0, g1⟩ := great_lt hg
  go_enter Try.func60, Try.ntmps60
  go_wp2_with (go_at_call 101; refine (fmWidth_any e f hg _).mono ?_; rintro rv w1 ⟨rfl, hb⟩; have ns : w.heap.size < w1.heap.size := hb.ltK; have n0 : w1.cell? ⟨w.heap.size, 0, none⟩ = some (.int .i64 e) := hb.cellK; have n1 : w1.cell? ⟨w.heap.size, 1, none⟩ = some (.int .i64 f) := hb.cellK; (first | (have nx := hx.trK hb; clear hx) | have nx := hb); clear hb; try clear hs; try clear g0; try clear g1; have hx := nx; clear nx; have hs := ns; clear ns; have g0 := n0; clear n0; have g1 := n1; clear n1)
  go_loopw [5, 6] (fun a b wr => ∃ q n : Int, a = .int .i64 q ∧ b = .int .i64 n ∧ -1 ≤ n ∧ n ≤ e + f - 1 ∧ Search f ((pw e - 1) * pw f - 1) u (n + 1) q ∧ Ext w wr ∧ w.heap.size < wr.heap.size ∧ wr.cell? ⟨w.heap.size, 0, none⟩ = some (.int .i64 e) ∧ wr.cell? ⟨w.heap.size, 1, none⟩ = some (.int .i64 f)) (fun _ b _ => (intOf b + 1).toNat)
  case atStart =>
    refine ⟨0, e + f - 1, rfl, ?_, by omega, by omega, ⟨by omega, by omega, ?_, .inl ?_⟩, Ext.auK, by assumption, by assumption, by assumption⟩
    · congr 1; omega
    · have : mgV f 0 = 0 := by unfold mgV; rw [if_neg (by simp)]; simp
      omega
    · rw [show e + f - 1 + 1 = e + f by omega]; omega
  case round =>
    obtain ⟨q, n, rfl, rfl, hn0, hn1, hs, hx, hsz, c0, c1'⟩ := hrel
    by_cases hlt : 0 ≤ n
    · have k1 := pw_of n
      have p0 : 1 ≤ pw n := pw_pos n
      have p1 : pw n ≤ 32768 := pw_le 15 32768 rfl (by omega)
      have q0 : 0 ≤ q := hs.1
      have q1 : q ≤ (pw e - 1) * pw f - 1 := hs.2.1
      by_cases hG : q + pw n ≤ (pw e - 1) * pw f - 1
      · have hp : patB e f (q + pw n) = true := pat_iff.2 ⟨hg, by omega, by omega⟩
        have hmg := units_mg e f (q + pw n) hp (by omega)
        have HM := Lib.hid hmg; clear hmg
        by_cases hU : unitsV e f (q + pw n) ≤ u
        · have hs2 := search_take (by omega) hs (by rwa [show n + 1 - 1 = n by omega]) (by rw [show n + 1 - 1 = n by omega, ← HM.out]; exact hU)
          rw [show n + 1 - 1 = n by omega] at hs2
          have HS := Lib.hid hs2; clear hs2 hs
          go_wp2_with (first | (go_at_call 63; refine (fmGreatest_any e f hg _).mono ?_; rintro rv w1 ⟨rfl, hb⟩; have ns : w.heap.size < w1.heap.size := hb.ltK; have n0 : w1.cell? ⟨w.heap.size, 0, none⟩ = some (.int .i64 e) := hb.cellK; have n1 : w1.cell? ⟨w.heap.size, 1, none⟩ = some (.int .i64 f) := hb.cellK; (first | (have nx := hx.trK hb; clear hx) | have nx := hb); clear hb; try clear hs; try clear g0; try clear g1; have hx := nx; clear nx; have hs := ns; clear ns; have g0 := n0; clear n0; have g1 := n1; clear n1) | (go_at_call 66; refine (fmUnits_any e f _ hp _).mono ?_; rintro rv w1 ⟨rfl, hb⟩; have ns : w.heap.size < w1.heap.size := hb.ltK; have n0 : w1.cell? ⟨w.heap.size, 0, none⟩ = some (.int .i64 e) := hb.cellK; have n1 : w1.cell? ⟨w.heap.size, 1, none⟩ = some (.int .i64 f) := hb.cellK; (first | (have nx := hx.trK hb; clear hx) | have nx := hb); clear hb; try clear hs; try clear g0; try clear g1; have hx := nx; clear nx; have hs := ns; clear ns; have g0 := n0; clear n0; have g1 := n1; clear n1))
          go_roundw
          case rel => exact ⟨q + pw n, n - 1, rfl, rfl, by omega, by omega, by rw [show n - 1 + 1 = n by omega]; exact HS.out, Ext.auK, (by with_reducible assumption), (by with_reducible assumption), (by with_reducible assumption)⟩
          case measure => simp [intOf]; omega
        · have hs2 := search_leave hs (.inr (by rw [show n + 1 - 1 = n by omega, ← HM.out]; omega))
          rw [show n + 1 - 1 = n by omega] at hs2
          have HS := Lib.hid hs2; clear hs2 hs
          go_wp2_with (first | (go_at_call 63; refine (fmGreatest_any e f hg _).mono ?_; rintro rv w1 ⟨rfl, hb⟩; have ns : w.heap.size < w1.heap.size := hb.ltK; have n0 : w1.cell? ⟨w.heap.size, 0, none⟩ = some (.int .i64 e) := hb.cellK; have n1 : w1.cell? ⟨w.heap.size, 1, none⟩ = some (.int .i64 f) := hb.cellK; (first | (have nx := hx.trK hb; clear hx) | have nx := hb); clear hb; try clear hs; try clear g0; try clear g1; have hx := nx; clear nx; have hs := ns; clear ns; have g0 := n0; clear n0; have g1 := n1; clear n1) | (go_at_call 66; refine (fmUnits_any e f _ hp _).mono ?_; rintro rv w1 ⟨rfl, hb⟩; have ns : w.heap.size < w1.heap.size := hb.ltK; have n0 : w1.cell? ⟨w.heap.size, 0, none⟩ = some (.int .i64 e) := hb.cellK; have n1 : w1.cell? ⟨w.heap.size, 1, none⟩ = some (.int .i64 f) := hb.cellK; (first | (have nx := hx.trK hb; clear hx) | have nx := hb); clear hb; try clear hs; try clear g0; try clear g1; have hx := nx; clear nx; have hs := ns; clear ns; have g0 := n0; clear n0; have g1 := n1; clear n1))
          go_roundw
          case rel => exact ⟨q, n - 1, rfl, rfl, by omega, by omega, by rw [show n - 1 + 1 = n by omega]; exact HS.out, Ext.auK, (by with_reducible assumption), (by with_reducible assumption), (by with_reducible assumption)⟩
          case measure => simp [intOf]; omega
      · have hs2 := search_leave hs (.inl (by rw [show n + 1 - 1 = n by omega]; omega))
        rw [show n + 1 - 1 = n by omega] at hs2
        have HS := Lib.hid hs2; clear hs2 hs
        go_wp2_with (first | (go_at_call 63; refine (fmGreatest_any e f hg _).mono ?_; rintro rv w1 ⟨rfl, hb⟩; have ns : w.heap.size < w1.heap.size := hb.ltK; have n0 : w1.cell? ⟨w.heap.size, 0, none⟩ = some (.int .i64 e) := hb.cellK; have n1 : w1.cell? ⟨w.heap.size, 1, none⟩ = some (.int .i64 f) := hb.cellK; (first | (have nx := hx.trK hb; clear hx) | have nx := hb); clear hb; try clear hs; try clear g0; try clear g1; have hx := nx; clear nx; have hs := ns; clear ns; have g0 := n0; clear n0; have g1 := n1; clear n1))
        go_roundw
        case rel => exact ⟨q, n - 1, rfl, rfl, by omega, by omega, by rw [show n - 1 + 1 = n by omega]; exact HS.out, Ext.auK, (by with_reducible assumption), (by with_reducible assumption), (by with_reducible assumption)⟩
        case measure => simp [intOf]; omega
    · go_wp2_with fail
      go_ret
      exact ⟨q, rfl, search_done (by rwa [show n + 1 = 0 by omega] at hs), hx⟩
end Go.Proofs.Ytmddlbphanlfhaa

