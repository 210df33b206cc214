/-
  Contracts of the functions that the laws reach, and the plain facts that they rest on, each under the conditions that its line names; part 24.
-/
import Derived.Test.YtjebechmedhidaaKpb1
import Derived.Test.YtjebechmedhidaaKpb2
import Derived.Test.YtjebechmedhidaaKpb3
import Derived.Test.YtjebechmedhidaaKpb4
import Derived.Test.YtjebechmedhidaaKpb5
import Derived.Test.YtjebechmedhidaaKpb6
import Derived.Test.YtjebechmedhidaaKpb7
import Derived.Test.YtjebechmedhidaaKpb8
import Derived.Test.YtjebechmedhidaaKpb9
import Derived.Test.YtjebechmedhidaaKpb10
import Derived.Test.YtjebechmedhidaaKpb11
import Derived.Test.YtjebechmedhidaaKpb12
import Derived.Test.YtjebechmedhidaaKpb13
import Derived.Test.YtjebechmedhidaaKpb14
import Derived.Test.YtjebechmedhidaaKpb15
import Derived.Test.YtjebechmedhidaaKpb16
import Derived.Test.YtjebechmedhidaaKpb17
import Derived.Test.YtjebechmedhidaaKpb18
import Derived.Test.YtjebechmedhidaaKpb19
import Derived.Test.YtjebechmedhidaaKpb20
import Derived.Test.YtjebechmedhidaaKpb21
import Derived.Test.YtjebechmedhidaaKpb22
import Derived.Test.YtjebechmedhidaaKpb23
import Derived.Test.YtjebechmedhidaaRows
import Derived.WalkKit
import Derived.LoopTactic
import Derived.Deep.OwnRows
import Derived.LoopN
import Derived.Deep.LoopGhost
import Derived.Laws.Bits64b
import Derived.WalkSpells
import Derived.WalkLawsBesides
import Derived.StillTactics
import Derived.Laws.Pointers
import Derived.Deep.RegionHeld3
import Derived.Deep.QuietTactic
import Derived.BigQuiet
import Derived.Outline
import Derived.Lib.Hide
import Derived.RowKit3
import Derived.Carry
import Derived.IntWalk
import Derived.Lib.BitFns
import Derived.Lib.TrailingZeros
import Derived.Laws.OwnMore
import Derived.OwnWalk
import Derived.Deep.AppendLies
namespace Go.Proofs.Ytjebechmedhidaa
open Go Go.RowKit
set_option linter.unusedSimpArgs false
set_option linter.unusedVariables false
set_option maxRecDepth 100000

theorem ext_add {w w' : World} {a : Addr} (h : Ext w w') (ha : a.block < w.heap.size) (i : Nat) : w'.cell? (a.add i) = w.cell? (a.add i) :=
  Below.cell (p := a.add i) h (by have e : (a.add i).block = a.block := (by unfold Addr.add; split <;> rfl)
                                  rw [e]; exact ha)

theorem exList_long (e f : Int) (V : Nat → Int) (a : Addr) (n cap : Nat) (hn : 12 < n) (w : World) : Calls Try.prog 72 #[fmt e f, .slice (some a) n cap] w fun rv w' => rv = .returned (.bool false) ∧ Ext w w' := by
  have h1 : (12 : Int) < (n : Int) := by omega
  go_enter Try.func72, Try.ntmps72
  go_wp2
  go_ret
  exact ⟨rfl, Ext.auK⟩

set_option maxHeartbeats 1600000 in
theorem exList_all (e f : Int) (V : Nat → Int) (a : Addr) (n cap : Nat) (hn : n ≤ 12) (hV : ∀ i, i < n → finB e f (V i) = true) (w : World) (hc : ∀ i, i < n → w.cell? (a.add i) = some (.int .i64 (V i))) (ha : a.block < w.heap.size) : Calls Try.prog 72 #[fmt e f, .slice (some a) n cap] w fun rv w' => rv = .returned (.bool (goodB e f)) ∧ Ext w w' := by
  have h12 : ¬ (12 : Int) < (n : Int) := by omega
  go_enter Try.func72, Try.ntmps72
  go_wp2
  go_loopw [12] (fun x wr => ∃ k : Nat, x = .int .i64 (k : Int) ∧ k ≤ n ∧ w.heap.size < wr.heap.size ∧ wr.cell? ⟨w.heap.size, 0, none⟩ = some (.int .i64 e) ∧ wr.cell? ⟨w.heap.size, 1, none⟩ = some (.int .i64 f) ∧ Ext w wr) (fun x _ => n - (intOf x).toNat)
  case atStart => exact ⟨0, rfl, by omega, by simp, by simp [go_sem], by simp [go_sem], Ext.new _ _⟩
  case round =>
    obtain ⟨k, rfl, hk, hs, g0, g1, hx⟩ := hrel
    by_cases hlt : k < n
    · have hlt2 : k < n := hlt
      have h1 : ((k : Nat) : Int) < (n : Int) := by omega
      have h0 : (0 : Int) ≤ (k : Int) := by omega
      have h2 : ((k : Int)).toNat = k := by omega
      have u1 : IntKind.i64.wrap ((k : Int) + 1) = (k : Int) + 1 := IntWalk.i64_in _ (by omega)
      have e0 : (a.add k).block = a.block := (by unfold Addr.add; split <;> rfl)
      have ga : wr.cell? (a.add k) = some (.int .i64 (V k)) := (Below.cell (p := a.add k) hx (by rw [e0]; exact ha)).trans (hc k hlt2)
      have hVk := hV k hlt
      have FF := Lib.hid (fun w => fmFinite_any e f (V k) w)
      rw [hVk] at FF
      go_wp2_with (go_at_call 78; refine (FF.out _).mono ?_; rintro rv w1 ⟨rfl, hb⟩; have ns : w.heap.size < w1.heap.size := hb.ltK; have n0 : w1.cell? ⟨w.heap.size, 0, none⟩ = some (.int .i64 e) := hb.cellK; have n1 : w1.cell? ⟨w.heap.size, 1, none⟩ = some (.int .i64 f) := hb.cellK; (first | (have nx := Ext.trans hx hb; clear hx) | (have nx := Ext.trans (hx.alloc _) hb; clear hx) | (have nx := Ext.trans hx.drew hb; clear hx) | have nx := hb); clear hb; try clear hs; try clear g0; try clear g1; have hx := nx; clear nx; have hs := ns; clear ns; have g0 := n0; clear n0; have g1 := n1; clear n1)
      go_roundw
      case rel => exact ⟨k + 1, by simp, by omega, by with_reducible assumption, by with_reducible assumption, by with_reducible assumption, by with_reducible assumption⟩
      case measure => simp [intOf]; omega
    · have h1 : ¬ ((k : Nat) : Int) < (n : Int) := by omega
      go_wp2_with (go_at_call 41; refine (fmGood_any e f _).mono ?_; rintro rv w1 ⟨rfl, hb⟩; have ns : w.heap.size < w1.heap.size := hb.ltK; have n0 : w1.cell? ⟨w.heap.size, 0, none⟩ = some (.int .i64 e) := hb.cellK; have n1 : w1.cell? ⟨w.heap.size, 1, none⟩ = some (.int .i64 f) := hb.cellK; (first | (have nx := Ext.trans hx hb; clear hx) | (have nx := Ext.trans (hx.alloc _) hb; clear hx) | (have nx := Ext.trans hx.drew hb; clear hx) | have nx := hb); clear hb; try clear hs; try clear g0; try clear g1; have hx := nx; clear nx; have hs := ns; clear ns; have g0 := n0; clear n0; have g1 := n1; clear n1)
      go_ret
      exact ⟨rfl, Ext.auK⟩

set_option maxHeartbeats 1600000 in
theorem exList_stop (e f : Int) (V : Nat → Int) (a : Addr) (n cap : Nat) (hn : n ≤ 12) (m : Nat) (hm : m < n) (hV : ∀ i, i < m → finB e f (V i) = true) (hb2 : finB e f (V m) = false) (w : World) (hc : ∀ i, i < n → w.cell? (a.add i) = some (.int .i64 (V i))) (ha : a.block < w.heap.size) : Calls Try.prog 72 #[fmt e f, .slice (some a) n cap] w fun rv w' => rv = .returned (.bool false) ∧ Ext w w' := by
  have h12 : ¬ (12 : Int) < (n : Int) := by omega
  go_enter Try.func72, Try.ntmps72
  go_wp2
  go_loopw [12] (fun x wr => ∃ k : Nat, x = .int .i64 (k : Int) ∧ k ≤ m ∧ w.heap.size < wr.heap.size ∧ wr.cell? ⟨w.heap.size, 0, none⟩ = some (.int .i64 e) ∧ wr.cell? ⟨w.heap.size, 1, none⟩ = some (.int .i64 f) ∧ Ext w wr) (fun x _ => n - (intOf x).toNat)
  case atStart => exact ⟨0, rfl, by omega, by simp, by simp [go_sem], by simp [go_sem], Ext.new _ _⟩
  case round =>
    obtain ⟨k, rfl, hk, hs, g0, g1, hx⟩ := hrel
    have hlt2 : k < n := by omega
    have h1 : ((k : Nat) : Int) < (n : Int) := by omega
    have h0 : (0 : Int) ≤ (k : Int) := by omega
    have h2 : ((k : Int)).toNat = k := by omega
    have u1 : IntKind.i64.wrap ((k : Int) + 1) = (k : Int) + 1 := IntWalk.i64_in _ (by omega)
    have e0 : (a.add k).block = a.block := (by unfold Addr.add; split <;> rfl)
    have ga : wr.cell? (a.add k) = some (.int .i64 (V k)) := (Below.cell (p := a.add k) hx (by rw [e0]; exact ha)).trans (hc k hlt2)
    by_cases hlt : k < m
    · have hVk := hV k hlt
      have FF := Lib.hid (fun w => fmFinite_any e f (V k) w)
      rw [hVk] at FF
      go_wp2_with (go_at_call 78; refine (FF.out _).mono ?_; rintro rv w1 ⟨rfl, hb⟩; have ns : w.heap.size < w1.heap.size := hb.ltK; have n0 : w1.cell? ⟨w.heap.size, 0, none⟩ = some (.int .i64 e) := hb.cellK; have n1 : w1.cell? ⟨w.heap.size, 1, none⟩ = some (.int .i64 f) := hb.cellK; (first | (have nx := Ext.trans hx hb; clear hx) | (have nx := Ext.trans (hx.alloc _) hb; clear hx) | (have nx := Ext.trans hx.drew hb; clear hx) | have nx := hb); clear hb; try clear hs; try clear g0; try clear g1; have hx := nx; clear nx; have hs := ns; clear ns; have g0 := n0; clear n0; have g1 := n1; clear n1)
      go_roundw
      case rel => exact ⟨k + 1, by simp, by omega, by with_reducible assumption, by with_reducible assumption, by with_reducible assumption, by with_reducible assumption⟩
      case measure => simp [intOf]; omega
    · have hkm : k = m := by omega
      subst hkm
      have FF := Lib.hid (fun w => fmFinite_any e f (V k) w)
      rw [hb2] at FF
      go_wp2_with (go_at_call 78; refine (FF.out _).mono ?_; rintro rv w1 ⟨rfl, hb⟩; have ns : w.heap.size < w1.heap.size := hb.ltK; have n0 : w1.cell? ⟨w.heap.size, 0, none⟩ = some (.int .i64 e) := hb.cellK; have n1 : w1.cell? ⟨w.heap.size, 1, none⟩ = some (.int .i64 f) := hb.cellK; (first | (have nx := Ext.trans hx hb; clear hx) | (have nx := Ext.trans (hx.alloc _) hb; clear hx) | (have nx := Ext.trans hx.drew hb; clear hx) | have nx := hb); clear hb; try clear hs; try clear g0; try clear g1; have hx := nx; clear nx; have hs := ns; clear ns; have g0 := n0; clear n0; have g1 := n1; clear n1)
      go_ret
      exact ⟨rfl, Ext.auK⟩

theorem exList_any (e f : Int) (V : Nat → Int) (a : Addr) (n cap : Nat) (w : World) (hc : ∀ i, i < n → w.cell? (a.add i) = some (.int .i64 (V i))) (ha : a.block < w.heap.size) : Calls Try.prog 72 #[fmt e f, .slice (some a) n cap] w fun rv w' => rv = .returned (.bool (lstB e f V n)) ∧ Ext w w' := by
  unfold lstB
  by_cases hn : n ≤ 12
  · by_cases hA : allF e f V n = true
    · rw [decide_eq_true hn, hA, Bool.and_true, Bool.and_true]
      exact exList_all e f V a n cap hn (allF_iff.1 hA) w hc ha
    · have hA2 : allF e f V n = false := by simpa using hA
      obtain ⟨m, hm, hV, hb⟩ := allF_not hA2
      rw [hA2, Bool.and_false]
      exact exList_stop e f V a n cap hn m hm hV hb w hc ha
  · rw [decide_eq_false hn, Bool.and_false, Bool.false_and]
    exact exList_long e f V a n cap (by omega) w

theorem lst_iff {e f : Int} {V : Nat → Int} {n : Nat} : lstB e f V n = true ↔ goodB e f = true ∧ n ≤ 12 ∧ ∀ i, i < n → finB e f (V i) = true := by
  unfold lstB; rw [Bool.and_eq_true, Bool.and_eq_true, decide_eq_true_eq, allF_iff, and_assoc]

theorem row_ext {w w' : World} {b n : Nat} {t : TypeId} {g : Nat → Value} (h : w.rowIs b t n g) (hx : Ext w w') : w'.rowIs b t n g := h.of_block (hx.block _ h.lt)
end Go.Proofs.Ytjebechmedhidaa

namespace Go.Proofs.Ytjebechmedhidaa
open Go Go.RowKit
set_option linter.unusedSimpArgs false
set_option linter.unusedVariables false
set_option maxRecDepth 100000

/-- The near sums of a list from the first one on, and whether all of them fit. -/
noncomputable def sqV (e f : Int) (V : Nat → Int) : Nat → Int
  | 0 => 0
  | k + 1 => nsV e f (unitsV e f (sqV e f V k) + unitsV e f (V k))

noncomputable def sqB (e f : Int) (V : Nat → Int) : Nat → Bool
  | 0 => true
  | k + 1 => sqB e f V k && nsB e f (unitsV e f (sqV e f V k) + unitsV e f (V k))

/-- The singles that the program has for them. -/
noncomputable def sqW (e f : Int) (V : Nat → Int) : Nat → Nat
  | 0 => 0
  | k + 1 => if sqB e f V k = true then nrW e f (decide ((unitsV e f (sqV e f V k) + unitsV e f (V k)) < 0)) (nsP e f (unitsV e f (sqV e f V k) + unitsV e f (V k))) else sqW e f V k

noncomputable def sqM (e f : Int) (V : Nat → Int) (k : Nat) : Nat := if sqB e f V k = true then cw (unitsV e f (sqV e f V k) + unitsV e f (V k)) else sqW e f V k

theorem zero_ns {e f : Int} (hg : goodB e f = true) : nsV e f 0 = 0 ∧ nsB e f 0 = true ∧ nsU e f 0 = 0 := by
  have hz : nsP e f 0 = 0 := (nsP_zero hg).2 rfl
  refine ⟨?_, ?_, ?_⟩
  · unfold nsV exV; rw [if_pos hz]
  · unfold nsB; rw [hz]; exact decide_eq_true (by have := (gr_bd2 hg).1; omega)
  · unfold nsU; rw [hz, mg_zero]; simp

theorem sq_fin {e f : Int} {V : Nat → Int} (hg : goodB e f = true) (k : Nat) (h : sqB e f V k = true) : finB e f (sqV e f V k) = true := by
  cases k with
  | zero =>
    obtain ⟨z1, z2, _⟩ := zero_ns hg
    have := (ns_pat (u := 0) hg).2
    rw [z1, z2] at this
    exact this
  | succ k =>
    unfold sqB at h
    rw [Bool.and_eq_true] at h
    exact fin_ns hg h.2

theorem sq_word {e f : Int} {V : Nat → Int} (hg : goodB e f = true) (k : Nat) (h : sqB e f V k = true) : sqW e f V k = cw (unitsV e f (sqV e f V k)) := by
  cases k with
  | zero =>
    obtain ⟨z1, z2, z3⟩ := zero_ns hg
    have := ns_units hg z2
    rw [z1, z3] at this
    show 0 = cw (unitsV e f 0)
    rw [this, zero_cw]
  | succ k =>
    unfold sqB at h
    rw [Bool.and_eq_true] at h
    show (if sqB e f V k = true then nrW e f (decide ((unitsV e f (sqV e f V k) + unitsV e f (V k)) < 0)) (nsP e f (unitsV e f (sqV e f V k) + unitsV e f (V k))) else sqW e f V k) = cw (unitsV e f (nsV e f (unitsV e f (sqV e f V k) + unitsV e f (V k))))
    rw [if_pos h.1, nr_cw hg h.2, ns_units hg h.2]

theorem sq_inf {e f : Int} {V : Nat → Int} (k : Nat) (h : sqB e f V k = false) : ∃ t, sqW e f V k = Ieee.single.word t Ieee.single.infRung := by
  induction k with
  | zero => simp [sqB] at h
  | succ k ih =>
    by_cases hk : sqB e f V k = true
    · unfold sqB at h
      rw [hk, Bool.true_and] at h
      refine ⟨decide ((unitsV e f (sqV e f V k) + unitsV e f (V k)) < 0), ?_⟩
      show (if sqB e f V k = true then nrW e f (decide ((unitsV e f (sqV e f V k) + unitsV e f (V k)) < 0)) (nsP e f (unitsV e f (sqV e f V k) + unitsV e f (V k))) else sqW e f V k) = _
      rw [if_pos hk]
      exact nr_inf h
    · obtain ⟨t, ht⟩ := ih (by simpa using hk)
      refine ⟨t, ?_⟩
      show (if sqB e f V k = true then nrW e f (decide ((unitsV e f (sqV e f V k) + unitsV e f (V k)) < 0)) (nsP e f (unitsV e f (sqV e f V k) + unitsV e f (V k))) else sqW e f V k) = _
      rw [if_neg hk]
      exact ht

theorem sq_mono {e f : Int} {V : Nat → Int} {a b : Nat} (h : a ≤ b) (hb : sqB e f V b = true) : sqB e f V a = true := by
  induction b with
  | zero =>
    have : a = 0 := by omega
    subst this; exact hb
  | succ b ih =>
    by_cases e1 : a = b + 1
    · subst e1; exact hb
    · unfold sqB at hb
      rw [Bool.and_eq_true] at hb
      exact ih (by omega) hb.1

theorem sq_first {e f : Int} {V : Nat → Int} {n : Nat} (h : sqB e f V n = false) : ∃ m, m < n ∧ sqB e f V m = true ∧ nsB e f (unitsV e f (sqV e f V m) + unitsV e f (V m)) = false := by
  induction n with
  | zero => simp [sqB] at h
  | succ n ih =>
    by_cases hk : sqB e f V n = true
    · refine ⟨n, by omega, hk, ?_⟩
      unfold sqB at h
      rwa [hk, Bool.true_and] at h
    · obtain ⟨m, a, b, c⟩ := ih (by simpa using hk)
      exact ⟨m, by omega, b, c⟩

set_option maxHeartbeats 1600000 in
theorem nearLG (e f : Int) (X W M : Nat → Nat) (n cap : Nat) (p : Option Addr) (h0 : W 0 = 0) (hA : ∀ k, k < n → floatBits .add .f32 (W k) (X k) = some (M k))
    (hN : ∀ k, k < n → ∀ w, Calls Try.prog 70 #[fmt e f, .float .f32 (M k)] w fun rv w' => rv = .returned (.float .f32 (W (k + 1))) ∧ Ext w w') (hn : n ≤ 1048576) (w : World)
    (hp : 0 < n → ∃ gl, p = some ⟨gl, 0, none⟩ ∧ gl < w.heap.size ∧ ∀ i, i < n → w.cell? ⟨gl, i, none⟩ = some (.float .f32 (X i))) : Calls Try.prog 58 #[fmt e f, .slice p n cap] w fun rv w' => rv = .returned (.float .f32 (W n)) ∧ Ext w w' := by
  have HN := Lib.hid hN; clear hN
  go_enter Try.func58, Try.ntmps58
  go_wp2
  go_loopw [5, 10] (fun y x wr => ∃ k : Nat, x = .int .i64 (k : Int) ∧ k ≤ n ∧ y = .float .f32 (W k) ∧ w.heap.size < wr.heap.size ∧ wr.cell? ⟨w.heap.size, 0, none⟩ = some (.int .i64 e) ∧ wr.cell? ⟨w.heap.size, 1, none⟩ = some (.int .i64 f) ∧ Ext w wr) (fun _ x _ => n - (intOf x).toNat)
  case atStart => exact ⟨0, rfl, by omega, by rw [h0], by simp, by simp [go_sem], by simp [go_sem], Ext.new _ _⟩
  case round =>
    obtain ⟨k, rfl, hk, rfl, hs, g0, g1, hx⟩ := hrel
    by_cases hlt : k < n
    · obtain ⟨gl, rfl, hgl, hcl⟩ := hp (by omega)
      have h1 : ((k : Nat) : Int) < (n : Int) := by omega
      have h0 : (0 : Int) ≤ (k : Int) := by omega
      have h2 : ((k : Int)).toNat = k := by omega
      have u1 : IntKind.i64.wrap ((k : Int) + 1) = (k : Int) + 1 := IntWalk.i64_in _ (by omega)
      have ga : wr.cell? ⟨gl, k, none⟩ = some (.float .f32 (X k)) := (hx.cells _ _ hgl).trans (hcl k hlt)
      have A0 : ∀ (t : TypeId) (w : World), (binOp .add t (.float .f32 (W k)) (.float .f32 (X k))).run Try.prog w = .ok (.float .f32 (M k)) w := fun t w => run_float_arith w .add t .f32 _ _ _ (hA k hlt)
      have NK := Lib.hid (fun w => HN.out k hlt w)
      generalize X k = xk at *
      generalize hW1 : W (k + 1) = wk1 at *
      have HW1 := Lib.hid hW1; clear hW1
      generalize W k = wk at *
      generalize M k = mk at *
      go_wp2_with (go_at_call 70; refine (NK.out _).mono ?_; rintro rv w1 ⟨rfl, hb⟩; have ns : w.heap.size < w1.heap.size := hb.ltK; have n0 : w1.cell? ⟨w.heap.size, 0, none⟩ = some (.int .i64 e) := hb.cellK; have n1 : w1.cell? ⟨w.heap.size, 1, none⟩ = some (.int .i64 f) := hb.cellK; (first | (have nx := Ext.trans hx hb; clear hx) | (have nx := Ext.trans (hx.alloc _) hb; clear hx) | (have nx := Ext.trans hx.drew hb; clear hx) | have nx := hb); clear hb; try clear hs; try clear g0; try clear g1; have hx := nx; clear nx; have hs := ns; clear ns; have g0 := n0; clear n0; have g1 := n1; clear n1)
      go_roundw
      case rel => exact ⟨k + 1, by simp, by omega, by rw [HW1.out], by with_reducible assumption, by with_reducible assumption, by with_reducible assumption, by with_reducible assumption⟩
      case measure => simp [intOf]; omega
    · have h1 : ¬ ((k : Nat) : Int) < (n : Int) := by omega
      have hkn : k = n := by omega
      go_wp2_with fail
      go_ret
      subst hkn
      exact ⟨rfl, Ext.auK⟩

theorem near_list (e f : Int) (V : Nat → Int) (n cap : Nat) (p : Option Addr) (h : lstB e f V n = true) (w : World)
    (hp : 0 < n → ∃ gl, p = some ⟨gl, 0, none⟩ ∧ gl < w.heap.size ∧ ∀ i, i < n → w.cell? ⟨gl, i, none⟩ = some (.float .f32 (floatOfInt .f32 (unitsV e f (V i))))) : Calls Try.prog 58 #[fmt e f, .slice p n cap] w fun rv w' => rv = .returned (.float .f32 (sqW e f V n)) ∧ Ext w w' := by
  obtain ⟨hg, h12, hV⟩ := lst_iff.1 h
  refine nearLG e f (fun i => floatOfInt .f32 (unitsV e f (V i))) (sqW e f V) (sqM e f V) n cap p rfl ?_ ?_ (by omega) w hp
  · intro k hk
    rw [int_cw]
    unfold sqM
    by_cases hB : sqB e f V k = true
    · rw [if_pos hB, sq_word hg k hB]
      exact add_cw (ok_units (sq_fin hg k hB)) (ok_units (hV k hk))
    · rw [if_neg hB]
      obtain ⟨t, ht⟩ := sq_inf k (by simpa using hB)
      rw [ht]
      exact add_inf t (ok_units (hV k hk))
  · intro k hk w
    unfold sqM
    by_cases hB : sqB e f V k = true
    · have e1 : sqW e f V (k + 1) = nrW e f (decide ((unitsV e f (sqV e f V k) + unitsV e f (V k)) < 0)) (nsP e f (unitsV e f (sqV e f V k) + unitsV e f (V k))) := if_pos hB
      rw [if_pos hB, e1]
      exact nearest_sum e f _ _ (sq_fin hg k hB) (hV k hk) w
    · have e1 : sqW e f V (k + 1) = sqW e f V k := if_neg hB
      rw [if_neg hB, e1]
      obtain ⟨t, ht⟩ := sq_inf k (by simpa using hB)
      rw [ht]
      exact nearest_ii e f t hg w

/-- What SumInOrder answers of finite patterns. -/
noncomputable def sqR (e f : Int) (V : Nat → Int) (n : Nat) : Int := if sqB e f V n = true then sqV e f V n else 0

theorem pv_sq (e f : Int) (V : Nat → Int) (n : Nat) (hg : goodB e f = true) (w : World) : Calls Try.prog 74 #[fmt e f, .float .f32 (sqW e f V n)] w fun rv w' => rv = .returned (.tuple #[.int .i64 (sqR e f V n), .bool (sqB e f V n)]) ∧ Ext w w' := by
  cases n with
  | zero =>
    obtain ⟨z1, z2, z3⟩ := zero_ns hg
    have := pv_ns e f 0 hg w
    rw [nr_cw hg z2, z3, zero_cw, z2] at this
    have e2 : nsR e f 0 = 0 := by unfold nsR; rw [z1, z2]; rfl
    rw [e2] at this
    exact this
  | succ k =>
    by_cases hB : sqB e f V k = true
    · have e1 : sqW e f V (k + 1) = nrW e f (decide ((unitsV e f (sqV e f V k) + unitsV e f (V k)) < 0)) (nsP e f (unitsV e f (sqV e f V k) + unitsV e f (V k))) := if_pos hB
      have e2 : sqB e f V (k + 1) = nsB e f (unitsV e f (sqV e f V k) + unitsV e f (V k)) := by show (sqB e f V k && nsB e f (unitsV e f (sqV e f V k) + unitsV e f (V k))) = _; rw [hB, Bool.true_and]
      have e3 : sqR e f V (k + 1) = nsR e f (unitsV e f (sqV e f V k) + unitsV e f (V k)) := by unfold sqR; rw [e2]; rfl
      rw [e1, e2, e3]
      exact pv_ns e f _ hg w
    · have hB2 : sqB e f V k = false := by simpa using hB
      have e2 : sqB e f V (k + 1) = false := by show (sqB e f V k && nsB e f (unitsV e f (sqV e f V k) + unitsV e f (V k))) = _; rw [hB2]; rfl
      have e3 : sqR e f V (k + 1) = 0 := by unfold sqR; rw [e2]; rfl
      obtain ⟨t, ht⟩ := sq_inf (k + 1) e2
      rw [ht, e2, e3]
      exact pv_inf e f t w
end Go.Proofs.Ytjebechmedhidaa

namespace Go.Proofs.Ytjebechmedhidaa
open Go Go.RowKit
set_option linter.unusedSimpArgs false
set_option linter.unusedVariables false
set_option maxRecDepth 100000

set_option maxHeartbeats 1600000 in
theorem exInOrder_all (e f : Int) (V : Nat → Int) (a : Addr) (n cap : Nat) (h : lstB e f V n = true) (hB : sqB e f V n = true) (w : World) (hc : ∀ i, i < n → w.cell? (a.add i) = some (.int .i64 (V i))) (ha : a.block < w.heap.size) : Calls Try.prog 73 #[fmt e f, .slice (some a) n cap] w fun rv w' => rv = .returned (.tuple #[.int .i64 (sqR e f V n), .bool (sqB e f V n)]) ∧ Ext w w' := by
  obtain ⟨hg, h12, hV⟩ := lst_iff.1 h
  have e1 : sqR e f V n = sqV e f V n := if_pos hB
  rw [e1, hB]; clear e1
  go_enter Try.func73, Try.ntmps73
  go_wp2
  go_loopw [6, 13] (fun y x wr => ∃ k : Nat, x = .int .i64 (k : Int) ∧ k ≤ n ∧ y = .int .i64 (sqV e f V k) ∧ w.heap.size < wr.heap.size ∧ wr.cell? ⟨w.heap.size, 0, none⟩ = some (.int .i64 e) ∧ wr.cell? ⟨w.heap.size, 1, none⟩ = some (.int .i64 f) ∧ Ext w wr) (fun _ x _ => n - (intOf x).toNat)
  case atStart => exact ⟨0, rfl, by omega, rfl, by simp, by simp [go_sem], by simp [go_sem], Ext.new _ _⟩
  case round =>
    obtain ⟨k, rfl, hk, rfl, hs, g0, g1, hx⟩ := hrel
    by_cases hlt : k < n
    · have hlt2 : k < n := hlt
      have h1 : ((k : Nat) : Int) < (n : Int) := by omega
      have h0 : (0 : Int) ≤ (k : Int) := by omega
      have h2 : ((k : Int)).toNat = k := by omega
      have u1 : IntKind.i64.wrap ((k : Int) + 1) = (k : Int) + 1 := IntWalk.i64_in _ (by omega)
      have e0 : (a.add k).block = a.block := (by unfold Addr.add; split <;> rfl)
      have ga : wr.cell? (a.add k) = some (.int .i64 (V k)) := (Below.cell (p := a.add k) hx (by rw [e0]; exact ha)).trans (hc k hlt2)
      have hBk := sq_mono (a := k) (by omega) hB
      have hBs := sq_mono (a := k + 1) (by omega) hB
      have nB : nsB e f (unitsV e f (sqV e f V k) + unitsV e f (V k)) = true := by
        have q : sqB e f V (k + 1) = (sqB e f V k && nsB e f (unitsV e f (sqV e f V k) + unitsV e f (V k))) := rfl
        rw [q, Bool.and_eq_true] at hBs
        exact hBs.2
      have both : (finB e f (sqV e f V k) && finB e f (V k)) = true := by rw [sq_fin hg k hBk, hV k hlt2]; rfl
      have ESH := Lib.hid (fun w => exSum_any e f (sqV e f V k) (V k) both w)
      rw [nB] at ESH
      have KS : RowKit.Hid (sqV e f V (k + 1) = nsV e f (unitsV e f (sqV e f V k) + unitsV e f (V k))) := Lib.hid rfl
      generalize nsV e f (unitsV e f (sqV e f V k) + unitsV e f (V k)) = nx at *
      go_wp2_with (go_at_call 55; refine (ESH.out _).mono ?_; rintro rv w1 ⟨rfl, hb⟩; have ns : w.heap.size < w1.heap.size := hb.ltK; have n0 : w1.cell? ⟨w.heap.size, 0, none⟩ = some (.int .i64 e) := hb.cellK; have n1 : w1.cell? ⟨w.heap.size, 1, none⟩ = some (.int .i64 f) := hb.cellK; (first | (have nx := Ext.trans hx hb; clear hx) | (have nx := Ext.trans (hx.alloc _) hb; clear hx) | (have nx := Ext.trans hx.drew hb; clear hx) | have nx := hb); clear hb; try clear hs; try clear g0; try clear g1; have hx := nx; clear nx; have hs := ns; clear ns; have g0 := n0; clear n0; have g1 := n1; clear n1)
      go_roundw
      case rel => exact ⟨k + 1, by simp, by omega, by rw [KS.out], by with_reducible assumption, by with_reducible assumption, by with_reducible assumption, by with_reducible assumption⟩
      case measure => simp [intOf]; omega
    · have h1 : ¬ ((k : Nat) : Int) < (n : Int) := by omega
      have hkn : k = n := by omega
      go_wp2_with fail
      go_ret2
      subst hkn
      exact ⟨rfl, Ext.auK⟩

set_option maxHeartbeats 1600000 in
theorem exInOrder_stop (e f : Int) (V : Nat → Int) (a : Addr) (n cap : Nat) (h : lstB e f V n = true) (m : Nat) (hm : m < n) (hB : sqB e f V m = true) (hN : nsB e f (unitsV e f (sqV e f V m) + unitsV e f (V m)) = false) (w : World) (hc : ∀ i, i < n → w.cell? (a.add i) = some (.int .i64 (V i))) (ha : a.block < w.heap.size) : Calls Try.prog 73 #[fmt e f, .slice (some a) n cap] w fun rv w' => rv = .returned (.tuple #[.int .i64 0, .bool false]) ∧ Ext w w' := by
  obtain ⟨hg, h12, hV⟩ := lst_iff.1 h

  go_enter Try.func73, Try.ntmps73
  go_wp2
  go_loopw [6, 13] (fun y x wr => ∃ k : Nat, x = .int .i64 (k : Int) ∧ k ≤ m ∧ y = .int .i64 (sqV e f V k) ∧ w.heap.size < wr.heap.size ∧ wr.cell? ⟨w.heap.size, 0, none⟩ = some (.int .i64 e) ∧ wr.cell? ⟨w.heap.size, 1, none⟩ = some (.int .i64 f) ∧ Ext w wr) (fun _ x _ => n - (intOf x).toNat)
  case atStart => exact ⟨0, rfl, by omega, rfl, by simp, by simp [go_sem], by simp [go_sem], Ext.new _ _⟩
  case round =>
    obtain ⟨k, rfl, hk, rfl, hs, g0, g1, hx⟩ := hrel
    have hlt2 : k < n := by omega
    have h1 : ((k : Nat) : Int) < (n : Int) := by omega
    have h0 : (0 : Int) ≤ (k : Int) := by omega
    have h2 : ((k : Int)).toNat = k := by omega
    have u1 : IntKind.i64.wrap ((k : Int) + 1) = (k : Int) + 1 := IntWalk.i64_in _ (by omega)
    have e0 : (a.add k).block = a.block := (by unfold Addr.add; split <;> rfl)
    have ga : wr.cell? (a.add k) = some (.int .i64 (V k)) := (Below.cell (p := a.add k) hx (by rw [e0]; exact ha)).trans (hc k hlt2)
    by_cases hlt : k < m
    · have hBk := sq_mono (a := k) (by omega) hB
      have hBs := sq_mono (a := k + 1) (by omega) hB
      have nB : nsB e f (unitsV e f (sqV e f V k) + unitsV e f (V k)) = true := by
        have q : sqB e f V (k + 1) = (sqB e f V k && nsB e f (unitsV e f (sqV e f V k) + unitsV e f (V k))) := rfl
        rw [q, Bool.and_eq_true] at hBs
        exact hBs.2
      have both : (finB e f (sqV e f V k) && finB e f (V k)) = true := by rw [sq_fin hg k hBk, hV k hlt2]; rfl
      have ESH := Lib.hid (fun w => exSum_any e f (sqV e f V k) (V k) both w)
      rw [nB] at ESH
      have KS : RowKit.Hid (sqV e f V (k + 1) = nsV e f (unitsV e f (sqV e f V k) + unitsV e f (V k))) := Lib.hid rfl
      generalize nsV e f (unitsV e f (sqV e f V k) + unitsV e f (V k)) = nx at *
      go_wp2_with (go_at_call 55; refine (ESH.out _).mono ?_; rintro rv w1 ⟨rfl, hb⟩; have ns : w.heap.size < w1.heap.size := hb.ltK; have n0 : w1.cell? ⟨w.heap.size, 0, none⟩ = some (.int .i64 e) := hb.cellK; have n1 : w1.cell? ⟨w.heap.size, 1, none⟩ = some (.int .i64 f) := hb.cellK; (first | (have nx := Ext.trans hx hb; clear hx) | (have nx := Ext.trans (hx.alloc _) hb; clear hx) | (have nx := Ext.trans hx.drew hb; clear hx) | have nx := hb); clear hb; try clear hs; try clear g0; try clear g1; have hx := nx; clear nx; have hs := ns; clear ns; have g0 := n0; clear n0; have g1 := n1; clear n1)
      go_roundw
      case rel => exact ⟨k + 1, by simp, by omega, by rw [KS.out], by with_reducible assumption, by with_reducible assumption, by with_reducible assumption, by with_reducible assumption⟩
      case measure => simp [intOf]; omega
    · have hkm : k = m := by omega
      subst hkm
      have both : (finB e f (sqV e f V k) && finB e f (V k)) = true := by rw [sq_fin hg k hB, hV k hlt2]; rfl
      have ESH := Lib.hid (fun w => exSum_any e f (sqV e f V k) (V k) both w)
      rw [hN] at ESH
      generalize nsV e f (unitsV e f (sqV e f V k) + unitsV e f (V k)) = nx at *
      go_wp2_with (go_at_call 55; refine (ESH.out _).mono ?_; rintro rv w1 ⟨rfl, hb⟩; have ns : w.heap.size < w1.heap.size := hb.ltK; have n0 : w1.cell? ⟨w.heap.size, 0, none⟩ = some (.int .i64 e) := hb.cellK; have n1 : w1.cell? ⟨w.heap.size, 1, none⟩ = some (.int .i64 f) := hb.cellK; (first | (have nx := Ext.trans hx hb; clear hx) | (have nx := Ext.trans (hx.alloc _) hb; clear hx) | (have nx := Ext.trans hx.drew hb; clear hx) | have nx := hb); clear hb; try clear hs; try clear g0; try clear g1; have hx := nx; clear nx; have hs := ns; clear ns; have g0 := n0; clear n0; have g1 := n1; clear n1)
      go_ret2
      exact ⟨rfl, Ext.auK⟩

theorem exInOrder_any (e f : Int) (V : Nat → Int) (a : Addr) (n cap : Nat) (h : lstB e f V n = true) (w : World) (hc : ∀ i, i < n → w.cell? (a.add i) = some (.int .i64 (V i))) (ha : a.block < w.heap.size) : Calls Try.prog 73 #[fmt e f, .slice (some a) n cap] w fun rv w' => rv = .returned (.tuple #[.int .i64 (sqR e f V n), .bool (sqB e f V n)]) ∧ Ext w w' := by
  by_cases hB : sqB e f V n = true
  · exact exInOrder_all e f V a n cap h hB w hc ha
  · have hB2 : sqB e f V n = false := by simpa using hB
    obtain ⟨m, hm, b, c⟩ := sq_first hB2
    have e3 : sqR e f V n = 0 := by unfold sqR; rw [hB2]; rfl
    rw [e3, hB2]
    exact exInOrder_stop e f V a n cap h m hm b c w hc ha

/-- The values of the list lie there. -/
def HPV (e f : Int) (V : Nat → Int) (n : Nat) (p : Option Addr) (w : World) : Prop := 0 < n → ∃ gl, p = some ⟨gl, 0, none⟩ ∧ gl < w.heap.size ∧ ∀ i, i < n → w.cell? ⟨gl, i, none⟩ = some (.float .f32 (floatOfInt .f32 (unitsV e f (V i))))

theorem HPV.ext {e f : Int} {V : Nat → Int} {n : Nat} {p : Option Addr} {w w' : World} (h : HPV e f V n p w) (hx : Ext w w') : HPV e f V n p w' := fun hn => by
  obtain ⟨gl, e1, e2, e3⟩ := h hn
  exact ⟨gl, e1, hx.lt e2, fun i hi => (hx.cells _ _ e2).trans (e3 i hi)⟩

/-- What SumInOrder answers. -/
noncomputable def soV (e f : Int) (V : Nat → Int) (n : Nat) : Int := if lstB e f V n = true then sqR e f V n else 0

noncomputable def soB (e f : Int) (V : Nat → Int) (n : Nat) : Bool := lstB e f V n && sqB e f V n

theorem sSumInOrder_row (e f : Int) (V : Nat → Int) (b n : Nat) (w : World) (h : w.rowIs b 3 n (fun i => .int .i64 (V i))) : Calls Try.prog 24 #[fmt e f, .slice (some ⟨b, 0, none⟩) n n] w fun rv w' => rv = .returned (.tuple #[.int .i64 (soV e f V n), .bool (soB e f V n)]) ∧ Ext w w' := by
  have hc : ∀ i, i < n → w.cell? ((⟨b, 0, none⟩ : Addr).add i) = some (.int .i64 (V i)) := fun i hi => by
    have := h.cell hi
    simp only [Addr.add]; split
    · rename_i h0; subst h0; simpa using this
    · simpa using this
  have EA := Lib.hid (fun w hc ha => exList_any e f V ⟨b, 0, none⟩ n n w hc ha)
  cases hB : lstB e f V n
  · have e1 : soV e f V n = 0 := by unfold soV; rw [hB]; rfl
    have e2 : soB e f V n = false := by unfold soB; rw [hB]; rfl
    rw [e1, e2]
    clear e1 e2
    rw [hB] at EA
    go_enter Try.func24, Try.ntmps24
    go_wp2_with (go_at_call 72; refine (EA.out _ (fun i hi => (ext_add (a := (⟨b, 0, none⟩ : Addr)) (w := w) Ext.auK h.lt i).trans (hc i hi)) (by first | exact (row_ext h Ext.auK).lt | (simp; have := h.lt; omega))).mono ?_; rintro rv w1 ⟨rfl, hb⟩; have ns : w.heap.size < w1.heap.size := hb.ltK; have n0 : w1.cell? ⟨w.heap.size, 0, none⟩ = some (.int .i64 e) := hb.cellK; have n1 : w1.cell? ⟨w.heap.size, 1, none⟩ = some (.int .i64 f) := hb.cellK; (first | (have nx := Ext.trans hx hb; clear hx) | (have nx := Ext.trans (hx.alloc _) hb; clear hx) | (have nx := Ext.trans hx.drew hb; clear hx) | have nx := hb); clear hb; try clear hs; try clear g0; try clear g1; have hx := nx; clear nx; have hs := ns; clear ns; have g0 := n0; clear n0; have g1 := n1; clear n1)
    go_ret2
    exact ⟨rfl, Ext.auK⟩
  · have e1 : soV e f V n = sqR e f V n := by unfold soV; rw [hB]; rfl
    have e2 : soB e f V n = sqB e f V n := by unfold soB; rw [hB]; rfl
    rw [e1, e2]
    clear e1 e2
    rw [hB] at EA
    have EB := Lib.hid (fun w hc ha => exInOrder_any e f V ⟨b, 0, none⟩ n n hB w hc ha)
    generalize sqR e f V n = R at *
    generalize sqB e f V n = B at *
    go_enter Try.func24, Try.ntmps24
    go_wp2_with (first | (go_at_call 72; refine (EA.out _ (fun i hi => (ext_add (a := (⟨b, 0, none⟩ : Addr)) (w := w) Ext.auK h.lt i).trans (hc i hi)) (by first | exact (row_ext h Ext.auK).lt | (simp; have := h.lt; omega))).mono ?_; rintro rv w1 ⟨rfl, hb⟩; have ns : w.heap.size < w1.heap.size := hb.ltK; have n0 : w1.cell? ⟨w.heap.size, 0, none⟩ = some (.int .i64 e) := hb.cellK; have n1 : w1.cell? ⟨w.heap.size, 1, none⟩ = some (.int .i64 f) := hb.cellK; (first | (have nx := Ext.trans hx hb; clear hx) | (have nx := Ext.trans (hx.alloc _) hb; clear hx) | (have nx := Ext.trans hx.drew hb; clear hx) | have nx := hb); clear hb; try clear hs; try clear g0; try clear g1; have hx := nx; clear nx; have hs := ns; clear ns; have g0 := n0; clear n0; have g1 := n1; clear n1) | (go_at_call 73; refine (EB.out _ (fun i hi => (ext_add (a := (⟨b, 0, none⟩ : Addr)) (w := w) Ext.auK h.lt i).trans (hc i hi)) (by first | exact (row_ext h Ext.auK).lt | (simp; have := h.lt; omega))).mono ?_; rintro rv w1 ⟨rfl, hb⟩; have ns : w.heap.size < w1.heap.size := hb.ltK; have n0 : w1.cell? ⟨w.heap.size, 0, none⟩ = some (.int .i64 e) := hb.cellK; have n1 : w1.cell? ⟨w.heap.size, 1, none⟩ = some (.int .i64 f) := hb.cellK; (first | (have nx := Ext.trans hx hb; clear hx) | (have nx := Ext.trans (hx.alloc _) hb; clear hx) | (have nx := Ext.trans hx.drew hb; clear hx) | have nx := hb); clear hb; try clear hs; try clear g0; try clear g1; have hx := nx; clear nx; have hs := ns; clear ns; have g0 := n0; clear n0; have g1 := n1; clear n1))
    go_ret2
    exact ⟨rfl, Ext.auK⟩

theorem iSumInOrder_row (e f : Int) (V : Nat → Int) (b n : Nat) (w : World) (h : w.rowIs b 3 n (fun i => .int .i64 (V i))) : Calls Try.prog 26 #[fmt e f, .slice (some ⟨b, 0, none⟩) n n] w fun rv w' => rv = .returned (.tuple #[.int .i64 (soV e f V n), .bool (soB e f V n)]) ∧ Ext w w' := by
  have hc : ∀ i, i < n → w.cell? ((⟨b, 0, none⟩ : Addr).add i) = some (.int .i64 (V i)) := fun i hi => by
    have := h.cell hi
    simp only [Addr.add]; split
    · rename_i h0; subst h0; simpa using this
    · simpa using this
  cases hB : lstB e f V n
  · have e1 : soV e f V n = 0 := by unfold soV; rw [hB]; rfl
    have e2 : soB e f V n = false := by unfold soB; rw [hB]; rfl
    rw [e1, e2]
    clear e1 e2
    go_enter Try.func26, Try.ntmps26
    go_wp2_with (go_at_call 57; (with_reducible refine (valuesOf_list_no e f V ⟨b, 0, none⟩ n n hB _ (fun i hi => (ext_add (a := (⟨b, 0, none⟩ : Addr)) (w := w) Ext.auK h.lt i).trans (hc i hi)) (by first | exact (row_ext h Ext.auK).lt | (simp; have := h.lt; omega))).mono ?_); rintro rv w1 ⟨rfl, hb⟩; have hx : Ext w w1 := Ext.trans Ext.auK hb; clear hb)
    go_ret2
    exact ⟨rfl, hx⟩
  · have e1 : soV e f V n = sqR e f V n := by unfold soV; rw [hB]; rfl
    have e2 : soB e f V n = sqB e f V n := by unfold soB; rw [hB]; rfl
    rw [e1, e2]
    clear e1 e2
    have hg := (lst_iff.1 hB).1
    go_enter Try.func26, Try.ntmps26
    go_wp2_with (go_at_call 57; (with_reducible refine (valuesOf_list e f V ⟨b, 0, none⟩ n n hB _ (fun i hi => (ext_add (a := (⟨b, 0, none⟩ : Addr)) (w := w) Ext.auK h.lt i).trans (hc i hi)) (by first | exact (row_ext h Ext.auK).lt | (simp; have := h.lt; omega))).mono ?_); rintro rv w1 ⟨p, cp, rfl, hp, hb⟩; have HP : RowKit.Hid (HPV e f V n p w1) := Lib.hid (fun hn => by obtain ⟨gl, e1, e2, e3, e4⟩ := hp hn; exact ⟨gl, e1, e3, e4⟩); clear hp; have ns : w.heap.size < w1.heap.size := hb.lt (by first | (simp; done) | (simp; omega)); have g0 : w1.cell? ⟨w.heap.size, 0, none⟩ = some (.int .i64 e) := (hb.cells _ _ (by first | (simp; done) | (simp; omega))).trans (by first | (simp; done) | (simp [go_sem, *]; done)); have g1 : w1.cell? ⟨w.heap.size, 1, none⟩ = some (.int .i64 f) := (hb.cells _ _ (by first | (simp; done) | (simp; omega))).trans (by first | (simp; done) | (simp [go_sem, *]; done)); have hx : Ext w w1 := Ext.trans Ext.auK hb; clear hb)
    go_wp2_with (first | (go_at_call 58; refine (near_list e f V n cp p hB _ (HPV.ext HP.out Ext.auK)).mono ?_; rintro rv w1 ⟨rfl, hb⟩; have ns : w.heap.size < w1.heap.size := hb.ltK; have n0 : w1.cell? ⟨w.heap.size, 0, none⟩ = some (.int .i64 e) := hb.cellK; have n1 : w1.cell? ⟨w.heap.size, 1, none⟩ = some (.int .i64 f) := hb.cellK; (first | (have nx := Ext.trans hx hb; clear hx) | (have nx := Ext.trans (hx.alloc _) hb; clear hx) | (have nx := Ext.trans hx.drew hb; clear hx) | have nx := hb); clear hb; try clear hs; try clear g0; try clear g1; have hx := nx; clear nx; have hs := ns; clear ns; have g0 := n0; clear n0; have g1 := n1; clear n1) | (go_at_call 74; refine (pv_sq e f V n hg _).mono ?_; rintro rv w1 ⟨rfl, hb⟩; have ns : w.heap.size < w1.heap.size := hb.ltK; have n0 : w1.cell? ⟨w.heap.size, 0, none⟩ = some (.int .i64 e) := hb.cellK; have n1 : w1.cell? ⟨w.heap.size, 1, none⟩ = some (.int .i64 f) := hb.cellK; (first | (have nx := Ext.trans hx hb; clear hx) | (have nx := Ext.trans (hx.alloc _) hb; clear hx) | (have nx := Ext.trans hx.drew hb; clear hx) | have nx := hb); clear hb; try clear hs; try clear g0; try clear g1; have hx := nx; clear nx; have hs := ns; clear ns; have g0 := n0; clear n0; have g1 := n1; clear n1))
    go_region_held3 (fun w' => w'.cell? ⟨w.heap.size, 0, none⟩ = some (.int .i64 e) ∧ w'.cell? ⟨w.heap.size, 1, none⟩ = some (.int .i64 f) ∧ w.heap.size < w'.heap.size) ((refine ⟨?_, ?_, ?_⟩ <;> first | with_reducible assumption | ((rw [cell_setRow_far _ _ _ _ _ (by omega)]); with_reducible assumption) | ((rw [setRow_size]); with_reducible assumption) | ((repeat rw [World.cell?_setCell_far _ _ _ _ (by simp)]); with_reducible assumption) | (simp; done) | (simp [World.setCell]; first | done | omega) | (simp [go_sem, World.cell?_alloc_past, World.cell?_setCell_far, *]; done))) ((first | (go_at_call 58; refine (near_list e f V n cp p hB _ (HPV.ext HP.out Ext.auK)).mono ?_; rintro rv w1 ⟨rfl, hb⟩; have ns : w.heap.size < w1.heap.size := hb.ltK; have n0 : w1.cell? ⟨w.heap.size, 0, none⟩ = some (.int .i64 e) := hb.cellK; have n1 : w1.cell? ⟨w.heap.size, 1, none⟩ = some (.int .i64 f) := hb.cellK; (first | (have nx := Ext.trans hx hb; clear hx) | (have nx := Ext.trans (hx.alloc _) hb; clear hx) | (have nx := Ext.trans hx.drew hb; clear hx) | have nx := hb); clear hb; try clear hs; try clear g0; try clear g1; have hx := nx; clear nx; have hs := ns; clear ns; have g0 := n0; clear n0; have g1 := n1; clear n1) | (go_at_call 74; refine (pv_sq e f V n hg _).mono ?_; rintro rv w1 ⟨rfl, hb⟩; have ns : w.heap.size < w1.heap.size := hb.ltK; have n0 : w1.cell? ⟨w.heap.size, 0, none⟩ = some (.int .i64 e) := hb.cellK; have n1 : w1.cell? ⟨w.heap.size, 1, none⟩ = some (.int .i64 f) := hb.cellK; (first | (have nx := Ext.trans hx hb; clear hx) | (have nx := Ext.trans (hx.alloc _) hb; clear hx) | (have nx := Ext.trans hx.drew hb; clear hx) | have nx := hb); clear hb; try clear hs; try clear g0; try clear g1; have hx := nx; clear nx; have hs := ns; clear ns; have g0 := n0; clear n0; have g1 := n1; clear n1)))
    all_goals go_wp2_with fail
    all_goals (try have hx := hx)
    go_ret2
    exact ⟨rfl, Ext.auK⟩

set_option maxHeartbeats 3200000 in
theorem wSumInOrder (e f : Int) (p : Option Addr) (n cap : Nat) (V : Nat → Int) (w : World) (hold : HoldsL w p n V) : Calls Try.prog 6 #[fmt e f, .slice p n cap] w fun rv w' => rv = .returned (.bool true) ∧ Ext w w' := by
  by_cases hn : n ≤ 1048576
  · have h12 : ¬ (1048576 : Int) < (n : Int) := by omega
    have SA := Lib.hid (fun b w h => sSumInOrder_row e f V b n w h)
    have IA := Lib.hid (fun b w h => iSumInOrder_row e f V b n w h)
    generalize soV e f V n = N at *
    generalize soB e f V n = B at *
    cases B
    all_goals
      go_enter Try.func6, Try.ntmps6
      go_wp2_with (first | (go_at_call 15; refine (toFormat_any e f _).mono ?_; rintro rv w1 ⟨rfl, hb⟩; (try (have Q9 := Lib.hid (row_ext Q.out (Ext.trans Ext.auK hb)); clear Q; have Q := Q9; clear Q9)); (try (have R9 := Lib.hid (row_ext R.out (Ext.trans Ext.auK hb)); clear R; have R := R9; clear R9)); have ns : w.heap.size < w1.heap.size := hb.ltK; have n0 : w1.cell? ⟨w.heap.size, 0, none⟩ = some (.int .i64 e) := hb.cellK; have n1 : w1.cell? ⟨w.heap.size, 1, none⟩ = some (.int .i64 f) := hb.cellK; (first | (have nx := Ext.trans hx hb; clear hx) | (have nx := Ext.trans (hx.alloc _) hb; clear hx) | (have nx := Ext.trans hx.drew hb; clear hx) | have nx := hb); clear hb; try clear hs; try clear g0; try clear g1; have hx := nx; clear nx; have hs := ns; clear ns; have g0 := n0; clear n0; have g1 := n1; clear n1) | (go_at_call 25; refine (toIntS_any p n cap V hn _ (hold.ext Ext.auK)).mono ?_; rintro rv w1 ⟨b, rfl, hq, hrow, hb⟩; (try clear Q); (try (have Q := Lib.hid (row_ext R.out (Ext.trans Ext.auK hb)); clear R)); have R := Lib.hid hrow; clear hrow hq; have ns : w.heap.size < w1.heap.size := hb.ltK; have n0 : w1.cell? ⟨w.heap.size, 0, none⟩ = some (.int .i64 e) := hb.cellK; have n1 : w1.cell? ⟨w.heap.size, 1, none⟩ = some (.int .i64 f) := hb.cellK; (first | (have nx := Ext.trans hx hb; clear hx) | (have nx := Ext.trans (hx.alloc _) hb; clear hx) | (have nx := Ext.trans hx.drew hb; clear hx) | have nx := hb); clear hb; try clear hs; try clear g0; try clear g1; have hx := nx; clear nx; have hs := ns; clear ns; have g0 := n0; clear n0; have g1 := n1; clear n1) | (go_at_call 24; refine (SA.out _ _ (row_ext R.out Ext.auK)).mono ?_; rintro rv w1 ⟨rfl, hb⟩; (try (have Q9 := Lib.hid (row_ext Q.out (Ext.trans Ext.auK hb)); clear Q; have Q := Q9; clear Q9)); (try (have R9 := Lib.hid (row_ext R.out (Ext.trans Ext.auK hb)); clear R; have R := R9; clear R9)); have ns : w.heap.size < w1.heap.size := hb.ltK; have n0 : w1.cell? ⟨w.heap.size, 0, none⟩ = some (.int .i64 e) := hb.cellK; have n1 : w1.cell? ⟨w.heap.size, 1, none⟩ = some (.int .i64 f) := hb.cellK; (first | (have nx := Ext.trans hx hb; clear hx) | (have nx := Ext.trans (hx.alloc _) hb; clear hx) | (have nx := Ext.trans hx.drew hb; clear hx) | have nx := hb); clear hb; try clear hs; try clear g0; try clear g1; have hx := nx; clear nx; have hs := ns; clear ns; have g0 := n0; clear n0; have g1 := n1; clear n1) | (go_at_call 26; refine (IA.out _ _ (row_ext R.out Ext.auK)).mono ?_; rintro rv w1 ⟨rfl, hb⟩; (try (have Q9 := Lib.hid (row_ext Q.out (Ext.trans Ext.auK hb)); clear Q; have Q := Q9; clear Q9)); (try (have R9 := Lib.hid (row_ext R.out (Ext.trans Ext.auK hb)); clear R; have R := R9; clear R9)); have ns : w.heap.size < w1.heap.size := hb.ltK; have n0 : w1.cell? ⟨w.heap.size, 0, none⟩ = some (.int .i64 e) := hb.cellK; have n1 : w1.cell? ⟨w.heap.size, 1, none⟩ = some (.int .i64 f) := hb.cellK; (first | (have nx := Ext.trans hx hb; clear hx) | (have nx := Ext.trans (hx.alloc _) hb; clear hx) | (have nx := Ext.trans hx.drew hb; clear hx) | have nx := hb); clear hb; try clear hs; try clear g0; try clear g1; have hx := nx; clear nx; have hs := ns; clear ns; have g0 := n0; clear n0; have g1 := n1; clear n1) | (go_at_call 19; refine (eqIntS_same _ _ n n n V hn _ (row_ext Q.out Ext.auK) (row_ext R.out Ext.auK)).mono ?_; rintro rv w1 ⟨rfl, hb⟩; have ns : w.heap.size < w1.heap.size := hb.ltK; have n0 : w1.cell? ⟨w.heap.size, 0, none⟩ = some (.int .i64 e) := hb.cellK; have n1 : w1.cell? ⟨w.heap.size, 1, none⟩ = some (.int .i64 f) := hb.cellK; (first | (have nx := Ext.trans hx hb; clear hx) | (have nx := Ext.trans (hx.alloc _) hb; clear hx) | (have nx := Ext.trans hx.drew hb; clear hx) | have nx := hb); clear hb; try clear hs; try clear g0; try clear g1; have hx := nx; clear nx; have hs := ns; clear ns; have g0 := n0; clear n0; have g1 := n1; clear n1))
      go_ret
      exact ⟨rfl, Ext.auK⟩
  · have h12 : (1048576 : Int) < (n : Int) := by omega
    go_enter Try.func6, Try.ntmps6
    go_wp2_with fail
    go_ret
    exact ⟨rfl, Ext.auK⟩
end Go.Proofs.Ytjebechmedhidaa

namespace Go.Proofs.Ytjebechmedhidaa
open Go Go.RowKit
set_option linter.unusedSimpArgs false
set_option linter.unusedVariables false
set_option maxRecDepth 100000

/-- A single that is infinite or no number. -/
def BadW (x : Nat) : Prop := 2139095040 ≤ x % 2147483648 ∧ x < 4294967296

theorem bad_read {x : Nat} (h : BadW x) : (∃ s, Ieee.single.read x = .infinity s ∧ x = Ieee.single.word s Ieee.single.infRung) ∨ ∃ s t, Ieee.single.read x = .nan s t := by
  obtain ⟨h1, h2⟩ := h
  have e1 : Ieee.single.signWeight = 2147483648 := by decide
  have e2 : Ieee.single.infRung = 2139095040 := by decide
  have e3 : Ieee.single.binade = 8388608 := by decide
  unfold Ieee.Format.read
  simp only [e1, e2, e3]
  rw [if_neg (by omega), if_neg (by omega)]
  by_cases hq : x % 2147483648 = 2139095040
  · rw [if_pos hq]
    refine Or.inl ⟨_, rfl, ?_⟩
    unfold Ieee.Format.word
    rw [e1]
    by_cases hs : x / 2147483648 % 2 = 1
    · rw [if_pos (by simpa using hs)]; omega
    · rw [if_neg (by simpa using hs)]; omega
  · rw [if_neg hq]
    exact Or.inr ⟨_, _, rfl⟩

theorem bad_inf (t : Bool) : BadW (Ieee.single.word t Ieee.single.infRung) := by cases t <;> (unfold BadW; decide)

theorem sum_bad {a b : Ieee.Datum} (h : ((∃ s, a = .infinity s) ∨ ∃ s t, a = .nan s t) ∨ ((∃ s, b = .infinity s) ∨ ∃ s t, b = .nan s t)) : a.sum b = none ∨ ∃ s, a.sum b = some (.infinity s) := by
  rcases h with (⟨s, rfl⟩ | ⟨s, t, rfl⟩) | (⟨s, rfl⟩ | ⟨s, t, rfl⟩)
  · cases b with
    | number s2 m e => exact Or.inr ⟨s, rfl⟩
    | infinity s2 =>
      by_cases q : s = s2
      · exact Or.inr ⟨s, by show (if s = s2 then some (Ieee.Datum.infinity s) else none) = _; rw [if_pos q]⟩
      · exact Or.inl (by show (if s = s2 then some (Ieee.Datum.infinity s) else none) = _; rw [if_neg q])
    | nan s2 t => exact Or.inl rfl
  · exact Or.inl (by cases b <;> rfl)
  · cases a with
    | number s2 m e => exact Or.inr ⟨s, rfl⟩
    | infinity s2 =>
      by_cases q : s2 = s
      · exact Or.inr ⟨s2, by show (if s2 = s then some (Ieee.Datum.infinity s2) else none) = _; rw [if_pos q]⟩
      · exact Or.inl (by show (if s2 = s then some (Ieee.Datum.infinity s2) else none) = _; rw [if_neg q])
    | nan s2 t => exact Or.inl rfl
  · exact Or.inl (by cases a <;> rfl)

theorem opp_bad {b : Ieee.Datum} (h : (∃ s, b = .infinity s) ∨ ∃ s t, b = .nan s t) : (∃ s, b.opposite = .infinity s) ∨ ∃ s t, b.opposite = .nan s t := by
  rcases h with ⟨s, rfl⟩ | ⟨s, t, rfl⟩
  · exact Or.inl ⟨!s, rfl⟩
  · exact Or.inr ⟨!s, t, rfl⟩

theorem bad_read2 {x : Nat} (h : BadW x) : (∃ s, Ieee.single.read x = .infinity s) ∨ ∃ s t, Ieee.single.read x = .nan s t := by
  rcases bad_read h with ⟨s, q, _⟩ | q
  · exact Or.inl ⟨s, q⟩
  · exact Or.inr q

/-- What a sum or a difference of singles is, whatever they are, and how often the tape is asked. -/
def fRes (op : BinOp) (w : World) (x y : Nat) : Nat := match floatBits op .f32 x y with
  | some r => r
  | none => (Question.nanBits .f32 x y).cut (w.tape w.drawn (.nanBits .f32 x y))

def fDr (op : BinOp) (x y : Nat) : Nat := match floatBits op .f32 x y with
  | some _ => 0
  | none => 1

theorem run_fl {P : Program} (op : BinOp) (hop : op = .add ∨ op = .sub) (x y : Nat) (t : TypeId) (w : World) : (binOp op t (.float .f32 x) (.float .f32 y)).run P w = .ok (.float .f32 (fRes op w x y)) (w.drewN (fDr op x y)) := by
  unfold fRes fDr
  cases h : floatBits op .f32 x y with
  | some r => exact run_float_arith w op t .f32 x y r h
  | none =>
    rcases hop with rfl | rfl
    · have h2 : FloatKind.f32.format.add x y = none := h
      simp [binOp, Op.floatArith, h2, Question.forced]; rfl
    · have h2 : FloatKind.f32.format.sub x y = none := h
      simp [binOp, Op.floatArith, h2, Question.forced]; rfl

theorem bad_num (a b : Nat) (h1 : a < 2) (h2 : b < 8388607) : BadW (a * 2147483648 + 2139095040 + 1 + b) ∧ (a * 2147483648 + 2139095040 + 1 + b) % 2147483648 ≠ 2139095040 := by
  unfold BadW
  omega

theorem cut_bad (q x y : Nat) : BadW ((Question.nanBits .f32 x y).cut q) := by
  show BadW (q % 2 * 2 ^ 31 + 0x7f800000 + 1 + q / 2 % (2 ^ 23 - 1))
  exact (bad_num (q % 2) (q / 2 % (2 ^ 23 - 1)) (Nat.mod_lt _ (by decide)) (Nat.mod_lt _ (by decide))).1

theorem res_bad {op : BinOp} (hop : op = .add ∨ op = .sub) {w : World} {x y : Nat} (h : BadW x ∨ BadW y) : BadW (fRes op w x y) := by
  unfold fRes
  cases hf : floatBits op .f32 x y with
  | none => exact cut_bad _ _ _
  | some r =>
    show BadW r
    have key : ∀ a b : Ieee.Datum, (((∃ s, a = .infinity s) ∨ ∃ s t, a = .nan s t) ∨ ((∃ s, b = .infinity s) ∨ ∃ s t, b = .nan s t)) → (a.sum b).map Ieee.single.write = some r → BadW r := by
      intro a b q e
      rcases sum_bad q with q | ⟨s, q⟩
      · rw [q] at e; cases e
      · rw [q] at e
        have : Ieee.single.word s Ieee.single.infRung = r := Option.some.inj e
        rw [← this]
        exact bad_inf s
    rcases hop with rfl | rfl
    · refine key (Ieee.single.read x) (Ieee.single.read y) ?_ hf
      rcases h with h | h
      · exact Or.inl (bad_read2 h)
      · exact Or.inr (bad_read2 h)
    · refine key (Ieee.single.read x) (Ieee.single.read y).opposite ?_ hf
      rcases h with h | h
      · exact Or.inl (bad_read2 h)
      · exact Or.inr (opp_bad (bad_read2 h))

/-- A double that is no number. -/
def NaN64 (y : Nat) : Prop := ∃ s t, FloatKind.f64.decode y = .nan s t

theorem nan_of {n : Nat} (h : 9218868437227405312 < n % 9223372036854775808) : NaN64 n := by
  have e1 : Ieee.double.signWeight = 9223372036854775808 := by decide
  have e2 : Ieee.double.infRung = 9218868437227405312 := by decide
  have e3 : Ieee.double.binade = 4503599627370496 := by decide
  unfold NaN64
  show ∃ s t, Ieee.double.read n = .nan s t
  unfold Ieee.Format.read
  simp only [e1, e2, e3]
  rw [if_neg (by omega), if_neg (by omega), if_neg (by omega)]
  exact ⟨_, _, rfl⟩

theorem nan_num (a b : Nat) (h1 : a < 2) (h2 : b < 4503599627370495) : 9218868437227405312 < (a * 9223372036854775808 + 9218868437227405312 + 1 + b) % 9223372036854775808 := by omega

theorem nan_cut (q : Nat) : NaN64 (q % 2 * 2 ^ 63 + 0x7ff0000000000000 + 1 + q / 2 % (2 ^ 52 - 1)) :=
  nan_of (nan_num (q % 2) (q / 2 % (2 ^ 52 - 1)) (Nat.mod_lt _ (by decide)) (Nat.mod_lt _ (by decide)))

theorem nan_order {y z : Nat} (h : NaN64 y) : FloatKind.f64.format.order y z = none := by
  obtain ⟨s, t, h⟩ := h
  show (Ieee.double.read y).order _ = none
  have : Ieee.double.read y = .nan s t := h
  rw [this]
  rfl

/-- The double that comes of a single that is no number. -/
def nanD (w : World) (x : Nat) : Nat := (Question.nanConv .f64 x).cut (w.tape w.drawn (.nanConv .f64 x))

theorem nanD_nan (w : World) (x : Nat) : NaN64 (nanD w x) := nan_cut _

theorem run_widen (x : Nat) (h : ∃ s t, Ieee.single.read x = .nan s t) (w : World) : (convert 69 80 (.float .f32 x)).run Try.prog w = .ok (.float .f64 (nanD w x)) w.drew := by
  obtain ⟨s, t, h⟩ := h
  have h2 : FloatKind.f32.decode x = .nan s t := h
  have hu := Try.underlying69
  have hd := Try.underlying80
  simp [convert, run_underlying hu, run_underlying hd, Conv.floatToFloat, h2, Question.forced]; rfl

theorem isNaN_nan (y : Nat) (h : NaN64 y) (w : World) : Calls Try.prog 105 #[.float .f64 y] w fun rv w' => rv = .returned (.bool true) ∧ w = w' := by
  have o : FloatKind.f64.format.order y y = none := nan_order h
  go_enter Try.func105, Try.ntmps105
  go_wp2
  go_ret
  exact ⟨rfl, rfl⟩

theorem nearest_bad (e f : Int) (x : Nat) (hg : goodB e f = true) (h : BadW x) (w : World) : Calls Try.prog 70 #[fmt e f, .float .f32 x] w fun rv w' => rv = .returned (.float .f32 x) ∧ Ext w w' := by
  rcases bad_read h with ⟨s, _, hx⟩ | hn
  · rw [hx]
    exact nearest_ii e f s hg w
  · have CV := run_widen x hn
    have NA := Lib.hid (fun w0 w => isNaN_nan (nanD w0 x) (nanD_nan w0 x) w)
    go_enter Try.func70, Try.ntmps70
    go_wp2_with (go_at_call 105; refine (NA.out _ _).mono ?_; rintro rv w1 ⟨rfl, rfl⟩)
    go_ret
    exact ⟨rfl, Ext.auK⟩

/-- The size of a single that is no number. -/
def maxN (w : World) (x y : Nat) : Nat := (Question.nanMinMax .f32 true x y).cut (w.tape w.drawn (.nanMinMax .f32 true x y))

theorem maxN_nan (w : World) (x y : Nat) : ∃ s t, Ieee.single.read (maxN w x y) = .nan s t := by
  have hb : BadW (maxN w x y) ∧ (maxN w x y) % 2147483648 ≠ 2139095040 := by
    exact bad_num (w.tape w.drawn (.nanMinMax .f32 true x y) % 2) (w.tape w.drawn (.nanMinMax .f32 true x y) / 2 % (2 ^ 23 - 1)) (Nat.mod_lt _ (by decide)) (Nat.mod_lt _ (by decide))
  rcases bad_read hb.1 with ⟨s, _, hx⟩ | hn
  · exfalso
    apply hb.2
    rw [hx]
    cases s <;> decide
  · exact hn

theorem run_maxN {P : Program} (x y : Nat) (h : ∃ s t, Ieee.single.read x = .nan s t) (ts : Array TypeId) (t : TypeId) (w : World) : (Builtin.max_ ts t #[.float .f32 x, .float .f32 y]).run P w = .ok (.float .f32 (maxN w x y)) w.drew := by
  obtain ⟨s, u, h⟩ := h
  have o : FloatKind.f32.format.order x y = none := by
    show (Ieee.single.read x).order _ = none
    rw [h]; rfl
  have e : Builtin.max_ ts t #[.float .f32 x, .float .f32 y] = Builtin.max2 (.float .f32 x) (.float .f32 y) := by simp [Builtin.max_]
  rw [e]
  unfold Builtin.max2
  simp [o, Question.forced]; rfl

theorem sizeOf_nan (x : Nat) (h : ∃ s t, Ieee.single.read x = .nan s t) (w : World) : Calls Try.prog 119 #[.float .f32 x] w fun rv w' => ∃ z, rv = .returned (.float .f32 z) ∧ (∃ s t, Ieee.single.read z = .nan s t) ∧ Ext w w' := by
  have k1 : ∀ w, (Op.unary .neg (.float .f32 x)).run Try.prog w = .ok (.float .f32 (Op.negFloat .f32 x)) w := fun w => rfl
  have k2 := run_maxN (P := Try.prog) x (Op.negFloat .f32 x) h
  generalize Op.negFloat .f32 x = y at *
  go_enter Try.func119, Try.ntmps119
  go_wp2
  go_ret
  exact ⟨_, rfl, maxN_nan _ _ _, Ext.auK⟩

theorem archTrunc_nan (y : Nat) (h : NaN64 y) (w : World) : ∃ z n, (callFunc 157 #[.float .f64 y]).run Try.prog w = .ok (.value (.float .f64 z)) (w.drewN n) := by
  obtain ⟨s, t, h⟩ := h
  have e := run_callFunc_extern (e := Extern.MathFloor.toIntegral "math.archTrunc" .zero) Try.func157 (by kernel_rfl) (by kernel_rfl) (by kernel_rfl) (by kernel_rfl) #[.float .f64 y] w
  have key : ∃ z n, (Extern.MathFloor.toIntegral "math.archTrunc" .zero #[.float .f64 y]).run Try.prog w = .ok (.float .f64 z) (w.drewN n) := by
    have e2 : Extern.MathFloor.toIntegral "math.archTrunc" .zero #[.float .f64 y] = (if FloatKind.f64.format.quiet t = t then pure (.float .f64 y) else do
        let kept ← choose (.extern "math.Floor,Ceil,Trunc,RoundToEven.signallingNaN kept" 2)
        pure (.float .f64 (if kept == 1 then y else FloatKind.f64.encode (.nan s (FloatKind.f64.format.quiet t))))) := by
      unfold Extern.MathFloor.toIntegral
      generalize FloatKind.f64.decode = D at *
      generalize FloatKind.f64.encode = E at *
      conv => lhs; whnf
      rw [h]
    rw [e2]
    by_cases q : FloatKind.f64.format.quiet t = t
    · rw [if_pos q]
      exact ⟨y, 0, rfl⟩
    · rw [if_neg q]
      exact ⟨_, 1, by simp [Question.forced]; exact ⟨rfl, rfl⟩⟩
  obtain ⟨z, n, k⟩ := key
  exact ⟨z, n, e.trans (by rw [k]; rfl)⟩

theorem trunc_nan (y : Nat) (h : NaN64 y) (w : World) : Calls Try.prog 125 #[.float .f64 y] w fun rv w' => ∃ z, rv = .returned (.float .f64 z) ∧ Ext w w' := by
  obtain ⟨Z, N, q⟩ : ∃ (Z N : World → Nat), ∀ w, (callFunc 157 #[.float .f64 y]).run Try.prog w = .ok (.value (.float .f64 (Z w))) (w.drewN (N w)) :=
    ⟨fun w => (archTrunc_nan y h w).choose, fun w => (archTrunc_nan y h w).choose_spec.choose, fun w => (archTrunc_nan y h w).choose_spec.choose_spec⟩
  go_enter Try.func125, Try.ntmps125
  go_wp2
  go_ret
  exact ⟨_, rfl, Ext.auK⟩

theorem pv_bad (e f : Int) (x : Nat) (h : BadW x) (w : World) : Calls Try.prog 74 #[fmt e f, .float .f32 x] w fun rv w' => rv = .returned (.tuple #[.int .i64 0, .bool false]) ∧ Ext w w' := by
  rcases bad_read h with ⟨s, _, hx⟩ | hn
  · rw [hx]
    exact pv_inf e f s w
  · have SN := Lib.hid (fun w => sizeOf_nan x hn w)
    have TRN := Lib.hid (fun y hy w => trunc_nan y hy w)
    have ON : ∀ (w : World) (z y : Nat), FloatKind.f64.format.order (nanD w z) y = none := fun w z y => nan_order (nanD_nan w z)
    go_enter Try.func74, Try.ntmps74
    go_wp2_with (first | (go_at_call 119; refine (SN.out _).mono ?_; rintro rv w1 ⟨z, rfl, hz, hb⟩; have CV := run_widen z hz; clear hz; have ns : w.heap.size < w1.heap.size := hb.ltK; have n0 : w1.cell? ⟨w.heap.size, 0, none⟩ = some (.int .i64 e) := hb.cellK; have n1 : w1.cell? ⟨w.heap.size, 1, none⟩ = some (.int .i64 f) := hb.cellK; (first | (have nx := Ext.trans hx hb; clear hx) | (have nx := Ext.trans (hx.alloc _) hb; clear hx) | (have nx := Ext.trans hx.drew hb; clear hx) | have nx := hb); clear hb; try clear hs; try clear g0; try clear g1; have hx := nx; clear nx; have hs := ns; clear ns; have g0 := n0; clear n0; have g1 := n1; clear n1) | (go_at_call 125; refine (TRN.out _ (nanD_nan _ _) _).mono ?_; rintro rv w1 ⟨z2, rfl, hb⟩; have ns : w.heap.size < w1.heap.size := hb.ltK; have n0 : w1.cell? ⟨w.heap.size, 0, none⟩ = some (.int .i64 e) := hb.cellK; have n1 : w1.cell? ⟨w.heap.size, 1, none⟩ = some (.int .i64 f) := hb.cellK; (first | (have nx := Ext.trans hx hb; clear hx) | (have nx := Ext.trans (hx.alloc _) hb; clear hx) | (have nx := Ext.trans hx.drew hb; clear hx) | have nx := hb); clear hb; try clear hs; try clear g0; try clear g1; have hx := nx; clear nx; have hs := ns; clear ns; have g0 := n0; clear n0; have g1 := n1; clear n1))
    go_ret2
    exact ⟨rfl, Ext.auK⟩
end Go.Proofs.Ytjebechmedhidaa

namespace Go.Proofs.Ytjebechmedhidaa
open Go Go.RowKit
set_option linter.unusedSimpArgs false
set_option linter.unusedVariables false
set_option maxRecDepth 100000

/-- A single that is a value of the format, or bad. -/
def VBP (e f : Int) (x : Nat) : Prop := (∃ a, finB e f a = true ∧ x = cw (unitsV e f a)) ∨ BadW x

theorem zero_fin {e f : Int} (hg : goodB e f = true) : finB e f 0 = true ∧ unitsV e f 0 = 0 := by
  obtain ⟨z1, z2, z3⟩ := zero_ns hg
  have q1 := (ns_pat (u := 0) hg).2
  have q2 := ns_units hg z2
  rw [z1, z2] at q1
  rw [z1, z3] at q2
  exact ⟨q1, q2⟩

theorem vb_zero {e f : Int} (hg : goodB e f = true) : VBP e f 0 := by
  obtain ⟨z1, z2⟩ := zero_fin hg
  exact Or.inl ⟨0, z1, by rw [z2, zero_cw]⟩

theorem vb_nr {e f u : Int} (hg : goodB e f = true) : VBP e f (nrW e f (decide (u < 0)) (nsP e f u)) ∧ (nsB e f u = false → BadW (nrW e f (decide (u < 0)) (nsP e f u))) := by
  cases hB : nsB e f u
  · rw [nr_inf hB]
    exact ⟨Or.inr (bad_inf _), fun _ => bad_inf _⟩
  · refine ⟨Or.inl ⟨nsV e f u, fin_ns hg hB, ?_⟩, fun h => by cases h⟩
    rw [nr_cw hg hB, ns_units hg hB]

theorem good_word {e f a : Int} (ha : finB e f a = true) : ¬ BadW (cw (unitsV e f a)) := by
  intro h
  obtain ⟨m, k, h1, _⟩ := read_sw (decide (unitsV e f a < 0)) (ok_units ha)
  have h2 : Ieee.single.read (cw (unitsV e f a)) = .number (decide (unitsV e f a < 0)) m (Ieee.single.leastPlace + k) := h1
  rcases bad_read2 h with ⟨s, q⟩ | ⟨s, t, q⟩ <;> (rw [h2] at q; cases q)

theorem step_vb (e f : Int) (x y : Nat) (hg : goodB e f = true) (hx : VBP e f x) (hy : VBP e f y) (w0 w : World) :
    Calls Try.prog 70 #[fmt e f, .float .f32 (fRes .add w0 x y)] w fun rv w' => ∃ z, rv = .returned (.float .f32 z) ∧ (VBP e f z ∧ ((BadW x ∨ BadW y) → BadW z)) ∧ Ext w w' := by
  have bad : (BadW x ∨ BadW y) → Calls Try.prog 70 #[fmt e f, .float .f32 (fRes .add w0 x y)] w fun rv w' => ∃ z, rv = .returned (.float .f32 z) ∧ (VBP e f z ∧ ((BadW x ∨ BadW y) → BadW z)) ∧ Ext w w' := by
    intro h
    have hb := res_bad (op := .add) (Or.inl rfl) (w := w0) h
    refine (nearest_bad e f _ hg hb w).mono ?_
    rintro rv w' ⟨rfl, hx2⟩
    exact ⟨_, rfl, ⟨Or.inr hb, fun _ => hb⟩, hx2⟩
  rcases hx with ⟨a, ha, rfl⟩ | hx
  · rcases hy with ⟨b, hb2, rfl⟩ | hy
    · have e1 : fRes .add w0 (cw (unitsV e f a)) (cw (unitsV e f b)) = cw (unitsV e f a + unitsV e f b) := by
        unfold fRes
        rw [add_cw (ok_units ha) (ok_units hb2)]
      rw [e1]
      refine (nearest_sum e f a b ha hb2 w).mono ?_
      rintro rv w' ⟨rfl, hx2⟩
      refine ⟨_, rfl, ⟨(vb_nr hg).1, ?_⟩, hx2⟩
      rintro (h | h)
      · exact absurd h (good_word ha)
      · exact absurd h (good_word hb2)
    · exact bad (Or.inr hy)
  · exact bad (Or.inl hx)

/-- One of the first n is bad. -/
def BadIn (X : Nat → Nat) (n : Nat) : Prop := ∃ i, i < n ∧ BadW (X i)

set_option maxHeartbeats 1600000 in
theorem near_vb (e f : Int) (X : Nat → Nat) (n cap : Nat) (p : Option Addr) (hg : goodB e f = true) (hX : ∀ k, k < n → VBP e f (X k)) (hn : n ≤ 1048576) (w : World)
    (hp : 0 < n → ∃ gl, p = some ⟨gl, 0, none⟩ ∧ gl < w.heap.size ∧ ∀ i, i < n → w.cell? ⟨gl, i, none⟩ = some (.float .f32 (X i))) :
    Calls Try.prog 58 #[fmt e f, .slice p n cap] w fun rv w' => ∃ z, rv = .returned (.float .f32 z) ∧ VBP e f z ∧ (BadIn X n → BadW z) ∧ Ext w w' := by
  go_enter Try.func58, Try.ntmps58
  go_wp2
  go_loopw [5, 10] (fun y x wr => ∃ (k : Nat) (z : Nat), x = .int .i64 (k : Int) ∧ k ≤ n ∧ y = .float .f32 z ∧ (VBP e f z ∧ (BadIn X k → BadW z)) ∧ w.heap.size < wr.heap.size ∧ wr.cell? ⟨w.heap.size, 0, none⟩ = some (.int .i64 e) ∧ wr.cell? ⟨w.heap.size, 1, none⟩ = some (.int .i64 f) ∧ Ext w wr) (fun _ x _ => n - (intOf x).toNat)
  case atStart => exact ⟨0, 0, rfl, by omega, rfl, ⟨vb_zero hg, fun ⟨i, hi, _⟩ => absurd hi (by omega)⟩, by simp, by simp [go_sem], by simp [go_sem], Ext.new _ _⟩
  case round =>
    obtain ⟨k, z, rfl, hk, rfl, hI, hs, g0, g1, hx⟩ := hrel
    by_cases hlt : k < n
    · obtain ⟨gl, rfl, hgl, hcl⟩ := hp (by omega)
      have h1 : ((k : Nat) : Int) < (n : Int) := by omega
      have h0 : (0 : Int) ≤ (k : Int) := by omega
      have h2 : ((k : Int)).toNat = k := by omega
      have u1 : IntKind.i64.wrap ((k : Int) + 1) = (k : Int) + 1 := IntWalk.i64_in _ (by omega)
      have ga : wr.cell? ⟨gl, k, none⟩ = some (.float .f32 (X k)) := (hx.cells _ _ hgl).trans (hcl k hlt)
      have A0 : ∀ (t : TypeId) (w : World), (binOp .add t (.float .f32 z) (.float .f32 (X k))).run Try.prog w = .ok (.float .f32 (fRes .add w z (X k))) (w.drewN (fDr .add z (X k))) := fun t w => run_fl .add (Or.inl rfl) z (X k) t w
      have NK := Lib.hid (fun w0 w => step_vb e f z (X k) hg hI.1 (hX k hlt) w0 w)
      have HB := Lib.hid hI.2
      have HXK : RowKit.Hid (∀ i, i < k + 1 → BadW (X i) → (i < k ∧ BadW (X i)) ∨ BadW (X k)) := Lib.hid (fun i hi hb => by
        by_cases h : i < k
        · exact Or.inl ⟨h, hb⟩
        · have : i = k := by omega
          subst this; exact Or.inr hb)
      clear hI
      generalize fDr .add z (X k) = dr at *
      generalize X k = xk at *
      go_wp2_with (go_at_call 70; refine (NK.out _ _).mono ?_; rintro rv w1 ⟨z2, rfl, hz2, hb⟩; have HZ := Lib.hid hz2; clear hz2; have ns : w.heap.size < w1.heap.size := hb.ltK; have n0 : w1.cell? ⟨w.heap.size, 0, none⟩ = some (.int .i64 e) := hb.cellK; have n1 : w1.cell? ⟨w.heap.size, 1, none⟩ = some (.int .i64 f) := hb.cellK; (first | (have nx := Ext.trans hx hb; clear hx) | (have nx := Ext.trans (hx.alloc _) hb; clear hx) | (have nx := Ext.trans hx.drew hb; clear hx) | have nx := hb); clear hb; try clear hs; try clear g0; try clear g1; have hx := nx; clear nx; have hs := ns; clear ns; have g0 := n0; clear n0; have g1 := n1; clear n1)
      go_roundw
      case rel => exact ⟨k + 1, z2, by simp, by omega, rfl, ⟨HZ.out.1, fun ⟨i, hi, hb⟩ => HZ.out.2 ((HXK.out i hi hb).elim (fun q => Or.inl (HB.out ⟨i, q⟩)) Or.inr)⟩, by with_reducible assumption, by with_reducible assumption, by with_reducible assumption, Ext.auK⟩
      case measure => simp [intOf]; omega
    · have h1 : ¬ ((k : Nat) : Int) < (n : Int) := by omega
      have hkn : k = n := by omega
      have HI := Lib.hid hI
      clear hI
      go_wp2_with fail
      go_ret
      subst hkn
      exact ⟨z, rfl, HI.out.1, HI.out.2, Ext.auK⟩

theorem near2_vb (e f : Int) (x0 x1 : Nat) (gl cap : Nat) (hg : goodB e f = true) (h0 : VBP e f x0) (h1 : VBP e f x1) (w : World) (c0 : w.cell? ⟨gl, 0, none⟩ = some (.float .f32 x0)) (c1 : w.cell? ⟨gl, 1, none⟩ = some (.float .f32 x1)) (hgl : gl < w.heap.size) :
    Calls Try.prog 58 #[fmt e f, .slice (some ⟨gl, 0, none⟩) 2 cap] w fun rv w' => ∃ z, rv = .returned (.float .f32 z) ∧ VBP e f z ∧ ((BadW x0 ∨ BadW x1) → BadW z) ∧ Ext w w' := by
  refine (near_vb e f (fun i => if i = 0 then x0 else x1) 2 cap _ hg ?_ (by decide) w (fun _ => ⟨gl, rfl, hgl, ?_⟩)).mono ?_
  · intro k hk
    show VBP e f (if k = 0 then x0 else x1)
    split
    · exact h0
    · exact h1
  · intro i hi
    show w.cell? ⟨gl, i, none⟩ = some (.float .f32 (if i = 0 then x0 else x1))
    by_cases q : i = 0
    · subst q; exact c0
    · have : i = 1 := by omega
      subst this; exact c1
  · rintro rv w' ⟨z, rfl, hz, hb, hx⟩
    refine ⟨z, rfl, hz, ?_, hx⟩
    rintro (h | h)
    · exact hb ⟨0, by decide, h⟩
    · exact hb ⟨1, by decide, h⟩

theorem sizeOf_vb (e f : Int) (x : Nat) (h : VBP e f x) (w : World) : Calls Try.prog 119 #[.float .f32 x] w fun rv w' => ∃ z, rv = .returned (.float .f32 z) ∧ Ext w w' := by
  rcases h with ⟨a, ha, rfl⟩ | h
  · refine (size_cw (unitsV e f a) (ok_units ha) w).mono ?_
    rintro rv w' ⟨rfl, hx⟩
    exact ⟨_, rfl, hx⟩
  · rcases bad_read h with ⟨s, _, hx⟩ | hn
    · rw [hx]
      refine (sizeOf_inf s w).mono ?_
      rintro rv w' ⟨rfl, hx⟩
      exact ⟨_, rfl, hx⟩
    · refine (sizeOf_nan x hn w).mono ?_
      rintro rv w' ⟨z, rfl, _, hx⟩
      exact ⟨_, rfl, hx⟩

set_option maxHeartbeats 3200000 in
theorem nwe_bad (e f : Int) (x0 x1 : Nat) (hg : goodB e f = true) (h0 : VBP e f x0) (h1 : VBP e f x1) (h : BadW x0 ∨ BadW x1) (w : World) :
    Calls Try.prog 77 #[fmt e f, .float .f32 x0, .float .f32 x1] w fun rv w' => ∃ s d, rv = .returned (.tuple #[.float .f32 s, .float .f32 d]) ∧ BadW s ∧ BadW d ∧ Ext w w' := by
  have S0 := Lib.hid (fun w => sizeOf_vb e f x0 h0 w)
  have S1 := Lib.hid (fun w => sizeOf_vb e f x1 h1 w)
  have A1 : ∀ (a b : Nat) (t : TypeId) (w : World), (binOp .sub t (.float .f32 a) (.float .f32 b)).run Try.prog w = .ok (.float .f32 (fRes .sub w a b)) (w.drewN (fDr .sub a b)) := fun a b t w => run_fl .sub (Or.inr rfl) a b t w
  have A2 : ∀ (a b : Nat) (t : TypeId) (w : World), (binOp .add t (.float .f32 a) (.float .f32 b)).run Try.prog w = .ok (.float .f32 (fRes .add w a b)) (w.drewN (fDr .add a b)) := fun a b t w => run_fl .add (Or.inl rfl) a b t w
  have HNb := Lib.hid (fun gl cap w c0 c1 hgl => near2_vb e f x1 x0 gl cap hg h1 h0 w c0 c1 hgl)
  have HNa := Lib.hid (fun gl cap w c0 c1 hgl => near2_vb e f x0 x1 gl cap hg h0 h1 w c0 c1 hgl)
  have HBb := Lib.hid h.symm
  have HBa := Lib.hid h
  clear h h0 h1
  go_enter Try.func77, Try.ntmps77
  go_wp2_with fail
  try (go_region_held3 (fun w' => w'.cell? ⟨w.heap.size, 0, none⟩ = some (.int .i64 e) ∧ w'.cell? ⟨w.heap.size, 1, none⟩ = some (.int .i64 f) ∧ w.heap.size < w'.heap.size) ((refine ⟨?_, ?_, ?_⟩ <;> first | with_reducible assumption | ((rw [cell_setRow_far _ _ _ _ _ (by omega)]); with_reducible assumption) | ((rw [setRow_size]); with_reducible assumption) | ((repeat rw [World.cell?_setCell_far _ _ _ _ (by simp)]); with_reducible assumption) | (simp; done) | (simp [World.setCell]; first | done | omega) | (simp [go_sem, World.cell?_alloc_past, World.cell?_setCell_far, *]; done))) ((first | (go_at_call 119; (with_reducible refine (S0.out _).mono ?_); rintro rv w1 ⟨z0, rfl, hb⟩; have ns : w.heap.size < w1.heap.size := hb.ltK; have n0 : w1.cell? ⟨w.heap.size, 0, none⟩ = some (.int .i64 e) := hb.cellK; have n1 : w1.cell? ⟨w.heap.size, 1, none⟩ = some (.int .i64 f) := hb.cellK; (first | (have nx := Ext.trans hx hb; clear hx) | (have nx := Ext.trans (hx.alloc _) hb; clear hx) | (have nx := Ext.trans hx.drew hb; clear hx) | have nx := hb); clear hb; try clear hs; try clear g0; try clear g1; have hx := nx; clear nx; have hs := ns; clear ns; have g0 := n0; clear n0; have g1 := n1; clear n1) | (go_at_call 119; (with_reducible refine (S1.out _).mono ?_); rintro rv w2 ⟨z1, rfl, hb⟩; have ns : w.heap.size < w2.heap.size := hb.ltK; have n0 : w2.cell? ⟨w.heap.size, 0, none⟩ = some (.int .i64 e) := hb.cellK; have n1 : w2.cell? ⟨w.heap.size, 1, none⟩ = some (.int .i64 f) := hb.cellK; (first | (have nx := Ext.trans hx hb; clear hx) | (have nx := Ext.trans (hx.alloc _) hb; clear hx) | (have nx := Ext.trans hx.drew hb; clear hx) | have nx := hb); clear hb; try clear hs; try clear g0; try clear g1; have hx := nx; clear nx; have hs := ns; clear ns; have g0 := n0; clear n0; have g1 := n1; clear n1))))
  all_goals (try go_wp2_with (first | (go_at_call 119; (with_reducible refine (S0.out _).mono ?_); rintro rv w1 ⟨z0, rfl, hb⟩; have ns : w.heap.size < w1.heap.size := hb.ltK; have n0 : w1.cell? ⟨w.heap.size, 0, none⟩ = some (.int .i64 e) := hb.cellK; have n1 : w1.cell? ⟨w.heap.size, 1, none⟩ = some (.int .i64 f) := hb.cellK; (first | (have nx := Ext.trans hx hb; clear hx) | (have nx := Ext.trans (hx.alloc _) hb; clear hx) | (have nx := Ext.trans hx.drew hb; clear hx) | have nx := hb); clear hb; try clear hs; try clear g0; try clear g1; have hx := nx; clear nx; have hs := ns; clear ns; have g0 := n0; clear n0; have g1 := n1; clear n1) | (go_at_call 119; (with_reducible refine (S1.out _).mono ?_); rintro rv w2 ⟨z1, rfl, hb⟩; have ns : w.heap.size < w2.heap.size := hb.ltK; have n0 : w2.cell? ⟨w.heap.size, 0, none⟩ = some (.int .i64 e) := hb.cellK; have n1 : w2.cell? ⟨w.heap.size, 1, none⟩ = some (.int .i64 f) := hb.cellK; (first | (have nx := Ext.trans hx hb; clear hx) | (have nx := Ext.trans (hx.alloc _) hb; clear hx) | (have nx := Ext.trans hx.drew hb; clear hx) | have nx := hb); clear hb; try clear hs; try clear g0; try clear g1; have hx := nx; clear nx; have hs := ns; clear ns; have g0 := n0; clear n0; have g1 := n1; clear n1) | (go_at_call 58; refine (HNa.out _ _ _ ?c0HNa ?c1HNa ?c2HNa).mono ?kHNa; (case c0HNa => first | with_reducible assumption | (simp; done) | (simp [go_sem]; done) | (simp [go_sem, *]; done)); (case c1HNa => first | with_reducible assumption | (simp; done) | (simp [go_sem]; done) | (simp [go_sem, *]; done)); (case c2HNa => (simp; try omega));  rintro rv w3 ⟨r, rfl, hr, hrb, hb⟩; have HR := Lib.hid (hrb HBa.out); clear hr hrb; have ns : w.heap.size < w3.heap.size := hb.ltK; have n0 : w3.cell? ⟨w.heap.size, 0, none⟩ = some (.int .i64 e) := hb.cellK; have n1 : w3.cell? ⟨w.heap.size, 1, none⟩ = some (.int .i64 f) := hb.cellK; (first | (have nx := Ext.trans hx hb; clear hx) | (have nx := Ext.trans (hx.alloc _) hb; clear hx) | (have nx := Ext.trans hx.drew hb; clear hx) | have nx := hb); clear hb; try clear hs; try clear g0; try clear g1; have hx := nx; clear nx; have hs := ns; clear ns; have g0 := n0; clear n0; have g1 := n1; clear n1) | (go_at_call 58; refine (HNb.out _ _ _ ?c0HNb ?c1HNb ?c2HNb).mono ?kHNb; (case c0HNb => first | with_reducible assumption | (simp; done) | (simp [go_sem]; done) | (simp [go_sem, *]; done)); (case c1HNb => first | with_reducible assumption | (simp; done) | (simp [go_sem]; done) | (simp [go_sem, *]; done)); (case c2HNb => (simp; try omega));  rintro rv w3 ⟨r, rfl, hr, hrb, hb⟩; have HR := Lib.hid (hrb HBb.out); clear hr hrb; have ns : w.heap.size < w3.heap.size := hb.ltK; have n0 : w3.cell? ⟨w.heap.size, 0, none⟩ = some (.int .i64 e) := hb.cellK; have n1 : w3.cell? ⟨w.heap.size, 1, none⟩ = some (.int .i64 f) := hb.cellK; (first | (have nx := Ext.trans hx hb; clear hx) | (have nx := Ext.trans (hx.alloc _) hb; clear hx) | (have nx := Ext.trans hx.drew hb; clear hx) | have nx := hb); clear hb; try clear hs; try clear g0; try clear g1; have hx := nx; clear nx; have hs := ns; clear ns; have g0 := n0; clear n0; have g1 := n1; clear n1) | fail))
  all_goals (try go_region)
  all_goals (try go_wp2_with fail)
  all_goals go_ret2
  all_goals exact ⟨r, _, rfl, HR.out, res_bad (Or.inl rfl) (Or.inl (res_bad (Or.inr rfl) (Or.inr HR.out))), Ext.auK⟩
end Go.Proofs.Ytjebechmedhidaa

namespace Go.Proofs.Ytjebechmedhidaa
open Go Go.RowKit
set_option linter.unusedSimpArgs false
set_option linter.unusedVariables false
set_option maxRecDepth 100000

/-- The sums of a list and those of their errors, and whether all fit. -/
noncomputable def csP (e f : Int) (V : Nat → Int) : Nat → Int × Int × Bool
  | 0 => (0, 0, true)
  | k + 1 => (nsV e f (unitsV e f (csP e f V k).1 + unitsV e f (V k)), nsV e f (unitsV e f (csP e f V k).2.1 + erU e f (unitsV e f (csP e f V k).1 + unitsV e f (V k))),
      (csP e f V k).2.2 && (nsB e f (unitsV e f (csP e f V k).1 + unitsV e f (V k)) && nsB e f (unitsV e f (csP e f V k).2.1 + erU e f (unitsV e f (csP e f V k).1 + unitsV e f (V k)))))

noncomputable def csS (e f : Int) (V : Nat → Int) (k : Nat) : Int := (csP e f V k).1

noncomputable def csC (e f : Int) (V : Nat → Int) (k : Nat) : Int := (csP e f V k).2.1

noncomputable def csB (e f : Int) (V : Nat → Int) (k : Nat) : Bool := (csP e f V k).2.2

theorem csS_succ (e f : Int) (V : Nat → Int) (k : Nat) : csS e f V (k + 1) = nsV e f (unitsV e f (csS e f V k) + unitsV e f (V k)) := rfl

theorem csC_succ (e f : Int) (V : Nat → Int) (k : Nat) : csC e f V (k + 1) = nsV e f (unitsV e f (csC e f V k) + erU e f (unitsV e f (csS e f V k) + unitsV e f (V k))) := rfl

theorem csB_succ (e f : Int) (V : Nat → Int) (k : Nat) : csB e f V (k + 1) = (csB e f V k && (nsB e f (unitsV e f (csS e f V k) + unitsV e f (V k)) && nsB e f (unitsV e f (csC e f V k) + erU e f (unitsV e f (csS e f V k) + unitsV e f (V k))))) := rfl

theorem cs_fin {e f : Int} {V : Nat → Int} (hg : goodB e f = true) (k : Nat) (h : csB e f V k = true) : finB e f (csS e f V k) = true ∧ finB e f (csC e f V k) = true := by
  cases k with
  | zero => exact ⟨(zero_fin hg).1, (zero_fin hg).1⟩
  | succ k =>
    rw [csB_succ, Bool.and_eq_true, Bool.and_eq_true] at h
    rw [csS_succ, csC_succ]
    exact ⟨fin_ns hg h.2.1, fin_ns hg h.2.2⟩

/-- The error's pattern has it as its value. -/
theorem er_val {e f a b : Int} (ha : finB e f a = true) (hb2 : finB e f b = true) (hB : nsB e f (unitsV e f a + unitsV e f b) = true) : finB e f (nsV e f (erU e f (unitsV e f a + unitsV e f b))) = true ∧ unitsV e f (nsV e f (erU e f (unitsV e f a + unitsV e f b))) = erU e f (unitsV e f a + unitsV e f b) := by
  have hg := (fin_size ha).1
  obtain ⟨o1, o2⟩ := two_err2 ha hb2 hB
  exact ⟨fin_ns hg o1, by rw [ns_units hg o1, o2]⟩

theorem ne_vb {e f a b : Int} (ha : finB e f a = true) (hb2 : finB e f b = true) : VBP e f (neW e f (unitsV e f a + unitsV e f b)) ∧ (nsB e f (unitsV e f a + unitsV e f b) = false → BadW (neW e f (unitsV e f a + unitsV e f b))) := by
  cases hB : nsB e f (unitsV e f a + unitsV e f b)
  · have : neW e f (unitsV e f a + unitsV e f b) = Ieee.single.word (!(decide (unitsV e f a + unitsV e f b < 0))) Ieee.single.infRung := if_neg (fun h => by rw [hB] at h; cases h)
    rw [this]
    exact ⟨Or.inr (bad_inf _), fun _ => bad_inf _⟩
  · refine ⟨Or.inl ⟨_, (er_val ha hb2 hB).1, ?_⟩, fun h => (by cases h)⟩
    rw [(er_val ha hb2 hB).2]
    exact if_pos hB

/-- How the program's singles lie to the patterns. -/
def CInv (e f : Int) (V : Nat → Int) (k : Nat) (zs zc : Nat) : Prop :=
  (csB e f V k = true → zs = cw (unitsV e f (csS e f V k)) ∧ zc = cw (unitsV e f (csC e f V k))) ∧ (csB e f V k = false → VBP e f zs ∧ BadW zc)

def CMid (e f : Int) (V : Nat → Int) (k : Nat) (zs ze zc : Nat) : Prop :=
  (csB e f V k = true → zc = cw (unitsV e f (csC e f V k)) ∧ (nsB e f (unitsV e f (csS e f V k) + unitsV e f (V k)) = true → zs = cw (unitsV e f (csS e f V (k + 1))) ∧ ze = cw (erU e f (unitsV e f (csS e f V k) + unitsV e f (V k)))) ∧ (nsB e f (unitsV e f (csS e f V k) + unitsV e f (V k)) = false → VBP e f zs ∧ BadW ze)) ∧ (csB e f V k = false → VBP e f zs ∧ VBP e f ze ∧ BadW zc)

theorem vb_val {e f a : Int} (ha : finB e f a = true) : VBP e f (cw (unitsV e f a)) := Or.inl ⟨a, ha, rfl⟩

theorem cs_nwe (e f : Int) (V : Nat → Int) (k : Nat) (hg : goodB e f = true) (hV : finB e f (V k) = true) (zs zc : Nat) (h : CInv e f V k zs zc) (w : World) :
    Calls Try.prog 77 #[fmt e f, .float .f32 zs, .float .f32 (cw (unitsV e f (V k)))] w fun rv w' => ∃ s d, rv = .returned (.tuple #[.float .f32 s, .float .f32 d]) ∧ CMid e f V k s d zc ∧ Ext w w' := by
  cases hB : csB e f V k
  · obtain ⟨h1, h2⟩ := h.2 hB
    by_cases hb : BadW zs
    · refine (nwe_bad e f zs _ hg h1 (vb_val hV) (Or.inl hb) w).mono ?_
      rintro rv w' ⟨s, d, rfl, q1, q2, hx⟩
      exact ⟨s, d, rfl, ⟨fun g => (by rw [hB] at g; cases g), fun _ => ⟨Or.inr q1, Or.inr q2, h2⟩⟩, hx⟩
    · obtain ⟨a, ha, rfl⟩ := h1.resolve_right hb
      refine (nwe_any e f a (V k) (by rw [ha, hV]; rfl) w).mono ?_
      rintro rv w' ⟨rfl, hx⟩
      exact ⟨_, _, rfl, ⟨fun g => (by rw [hB] at g; cases g), fun _ => ⟨(vb_nr hg).1, (ne_vb ha hV).1, h2⟩⟩, hx⟩
  · obtain ⟨rfl, rfl⟩ := h.1 hB
    obtain ⟨fs, fc⟩ := cs_fin hg k hB
    refine (nwe_any e f (csS e f V k) (V k) (by rw [fs, hV]; rfl) w).mono ?_
    rintro rv w' ⟨rfl, hx⟩
    refine ⟨_, _, rfl, ⟨fun _ => ⟨rfl, fun n => ⟨?_, ?_⟩, fun n => ⟨(vb_nr hg).1, (ne_vb fs hV).2 n⟩⟩, fun g => (by rw [hB] at g; cases g)⟩, hx⟩
    · rw [csS_succ, nr_cw hg n, ns_units hg n]
    · exact if_pos n

theorem cs_near (e f : Int) (V : Nat → Int) (k : Nat) (hg : goodB e f = true) (hV : finB e f (V k) = true) (zs ze zc : Nat) (h : CMid e f V k zs ze zc) (gl cap : Nat) (w : World) (c0 : w.cell? ⟨gl, 0, none⟩ = some (.float .f32 zc)) (c1 : w.cell? ⟨gl, 1, none⟩ = some (.float .f32 ze)) (hgl : gl < w.heap.size) :
    Calls Try.prog 58 #[fmt e f, .slice (some ⟨gl, 0, none⟩) 2 cap] w fun rv w' => ∃ z, rv = .returned (.float .f32 z) ∧ CInv e f V (k + 1) zs z ∧ Ext w w' := by
  cases hB : csB e f V k
  · obtain ⟨h1, h2, h3⟩ := h.2 hB
    refine (near2_vb e f zc ze gl cap hg (Or.inr h3) h2 w c0 c1 hgl).mono ?_
    rintro rv w' ⟨z, rfl, _, hz, hx⟩
    have hB2 : csB e f V (k + 1) = false := by rw [csB_succ, hB]; rfl
    exact ⟨z, rfl, ⟨fun g => (by rw [hB2] at g; cases g), fun _ => ⟨h1, hz (Or.inl h3)⟩⟩, hx⟩
  · obtain ⟨h1, h2, h3⟩ := h.1 hB
    obtain ⟨fs, fc⟩ := cs_fin hg k hB
    cases hU : nsB e f (unitsV e f (csS e f V k) + unitsV e f (V k))
    · obtain ⟨q1, q2⟩ := h3 hU
      have hB2 : csB e f V (k + 1) = false := by rw [csB_succ, hU]; simp
      refine (near2_vb e f zc ze gl cap hg (by rw [h1]; exact vb_val fc) (Or.inr q2) w c0 c1 hgl).mono ?_
      rintro rv w' ⟨z, rfl, _, hz, hx⟩
      exact ⟨z, rfl, ⟨fun g => (by rw [hB2] at g; cases g), fun _ => ⟨q1, hz (Or.inr q2)⟩⟩, hx⟩
    · obtain ⟨q1, q2⟩ := h2 hU
      obtain ⟨r1, r2⟩ := er_val fs hV hU
      have hB2 : csB e f V (k + 1) = nsB e f (unitsV e f (csC e f V k) + erU e f (unitsV e f (csS e f V k) + unitsV e f (V k))) := by rw [csB_succ, hB, hU]; simp
      rw [h1] at c0
      rw [q2, ← r2] at c1
      refine (near_two e f (csC e f V k) _ fc r1 gl cap w c0 c1 hgl).mono ?_
      rintro rv w' ⟨rfl, hx⟩
      rw [r2]
      refine ⟨_, rfl, ⟨fun g => ?_, fun g => ?_⟩, hx⟩
      · rw [hB2] at g
        refine ⟨q1, ?_⟩
        rw [csC_succ, nr_cw hg g, ns_units hg g]
      · rw [hB2] at g
        refine ⟨?_, (vb_nr hg).2 g⟩
        rw [q1]
        exact vb_val (by rw [csS_succ]; exact fin_ns hg hU)

/-- What CompensatedSum answers of finite patterns. -/
noncomputable def coB (e f : Int) (V : Nat → Int) (n : Nat) : Bool := csB e f V n && nsB e f (unitsV e f (csS e f V n) + unitsV e f (csC e f V n))

noncomputable def coV (e f : Int) (V : Nat → Int) (n : Nat) : Int := if csB e f V n = true then nsR e f (unitsV e f (csS e f V n) + unitsV e f (csC e f V n)) else 0

theorem cs_last (e f : Int) (V : Nat → Int) (n : Nat) (hg : goodB e f = true) (zs zc : Nat) (h : CInv e f V n zs zc) (gl cap : Nat) (w : World) (c0 : w.cell? ⟨gl, 0, none⟩ = some (.float .f32 zs)) (c1 : w.cell? ⟨gl, 1, none⟩ = some (.float .f32 zc)) (hgl : gl < w.heap.size) :
    Calls Try.prog 58 #[fmt e f, .slice (some ⟨gl, 0, none⟩) 2 cap] w fun rv w' => ∃ z, rv = .returned (.float .f32 z) ∧ (∀ w, Calls Try.prog 74 #[fmt e f, .float .f32 z] w fun rv w' => rv = .returned (.tuple #[.int .i64 (coV e f V n), .bool (coB e f V n)]) ∧ Ext w w') ∧ Ext w w' := by
  cases hB : csB e f V n
  · obtain ⟨h1, h2⟩ := h.2 hB
    refine (near2_vb e f zs zc gl cap hg h1 (Or.inr h2) w c0 c1 hgl).mono ?_
    rintro rv w' ⟨z, rfl, _, hz, hx⟩
    refine ⟨z, rfl, fun w => ?_, hx⟩
    have e1 : coV e f V n = 0 := by unfold coV; rw [hB]; rfl
    have e2 : coB e f V n = false := by unfold coB; rw [hB]; rfl
    rw [e1, e2]
    exact pv_bad e f z (hz (Or.inr h2)) w
  · obtain ⟨rfl, rfl⟩ := h.1 hB
    obtain ⟨fs, fc⟩ := cs_fin hg n hB
    refine (near_two e f _ _ fs fc gl cap w c0 c1 hgl).mono ?_
    rintro rv w' ⟨rfl, hx⟩
    refine ⟨_, rfl, fun w => ?_, hx⟩
    have e1 : coV e f V n = nsR e f (unitsV e f (csS e f V n) + unitsV e f (csC e f V n)) := by unfold coV; rw [hB]; rfl
    have e2 : coB e f V n = nsB e f (unitsV e f (csS e f V n) + unitsV e f (csC e f V n)) := by unfold coB; rw [hB]; rfl
    rw [e1, e2]
    exact pv_ns e f _ hg w

/-- What CompensatedSum answers. -/
noncomputable def cmV (e f : Int) (V : Nat → Int) (n : Nat) : Int := if lstB e f V n = true then coV e f V n else 0

noncomputable def cmB (e f : Int) (V : Nat → Int) (n : Nat) : Bool := lstB e f V n && coB e f V n

set_option maxHeartbeats 3200000 in
theorem iCompensatedSum_row (e f : Int) (V : Nat → Int) (b n : Nat) (w : World) (h : w.rowIs b 3 n (fun i => .int .i64 (V i))) : Calls Try.prog 28 #[fmt e f, .slice (some ⟨b, 0, none⟩) n n] w fun rv w' => rv = .returned (.tuple #[.int .i64 (cmV e f V n), .bool (cmB e f V n)]) ∧ Ext w w' := by
  have hc : ∀ i, i < n → w.cell? ((⟨b, 0, none⟩ : Addr).add i) = some (.int .i64 (V i)) := fun i hi => by
    have := h.cell hi
    simp only [Addr.add]; split
    · rename_i h0; subst h0; simpa using this
    · simpa using this
  cases hB : lstB e f V n
  · have e1 : cmV e f V n = 0 := by unfold cmV; rw [hB]; rfl
    have e2 : cmB e f V n = false := by unfold cmB; rw [hB]; rfl
    rw [e1, e2]
    clear e1 e2
    go_enter Try.func28, Try.ntmps28
    go_wp2_with (go_at_call 57; (with_reducible refine (valuesOf_list_no e f V ⟨b, 0, none⟩ n n hB _ (fun i hi => (ext_add (a := (⟨b, 0, none⟩ : Addr)) (w := w) Ext.auK h.lt i).trans (hc i hi)) (by first | exact (row_ext h Ext.auK).lt | (simp; have := h.lt; omega))).mono ?_); rintro rv w1 ⟨rfl, hb⟩; have hx : Ext w w1 := Ext.trans Ext.auK hb; clear hb)
    go_ret2
    exact ⟨rfl, hx⟩
  · have e1 : cmV e f V n = coV e f V n := by unfold cmV; rw [hB]; rfl
    have e2 : cmB e f V n = coB e f V n := by unfold cmB; rw [hB]; rfl
    rw [e1, e2]
    clear e1 e2
    obtain ⟨hg, h12, hV⟩ := lst_iff.1 hB
    have NLC := Lib.hid (fun zs zc hi gl cap w c0 c1 hgl => cs_last e f V n hg zs zc hi gl cap w c0 c1 hgl)
    generalize coV e f V n = R at *
    generalize coB e f V n = B at *
    go_enter Try.func28, Try.ntmps28
    go_wp2_with (go_at_call 57; (with_reducible refine (valuesOf_list e f V ⟨b, 0, none⟩ n n hB _ (fun i hi => (ext_add (a := (⟨b, 0, none⟩ : Addr)) (w := w) Ext.auK h.lt i).trans (hc i hi)) (by first | exact (row_ext h Ext.auK).lt | (simp; have := h.lt; omega))).mono ?_); rintro rv w1 ⟨p, cp, rfl, hp, hb⟩; have HP : RowKit.Hid (HPV e f V n p w1) := Lib.hid (fun hn => by obtain ⟨gl, e1, e2, e3, e4⟩ := hp hn; exact ⟨gl, e1, e3, e4⟩); clear hp; have ns : w.heap.size < w1.heap.size := hb.lt (by first | (simp; done) | (simp; omega)); have g0 : w1.cell? ⟨w.heap.size, 0, none⟩ = some (.int .i64 e) := (hb.cells _ _ (by first | (simp; done) | (simp; omega))).trans (by first | (simp; done) | (simp [go_sem, *]; done)); have g1 : w1.cell? ⟨w.heap.size, 1, none⟩ = some (.int .i64 f) := (hb.cells _ _ (by first | (simp; done) | (simp; omega))).trans (by first | (simp; done) | (simp [go_sem, *]; done)); have hx : Ext w w1 := Ext.trans Ext.auK hb; clear hb)
    go_loopw [8, 9, 10, 23] (fun s d c x wr => ∃ (k zs zd zc : Nat), x = .int .i64 (k : Int) ∧ k ≤ n ∧ s = .float .f32 zs ∧ d = .float .f32 zd ∧ c = .float .f32 zc ∧ CInv e f V k zs zc ∧ w.heap.size < wr.heap.size ∧ wr.cell? ⟨w.heap.size, 0, none⟩ = some (.int .i64 e) ∧ wr.cell? ⟨w.heap.size, 1, none⟩ = some (.int .i64 f) ∧ Ext w1 wr) (fun _ _ _ x _ => n - (intOf x).toNat)
    case atStart => exact ⟨0, 0, 0, 0, rfl, by omega, rfl, rfl, rfl, ⟨fun _ => ⟨by rw [show csS e f V 0 = 0 from rfl, (zero_fin hg).2, zero_cw], by rw [show csC e f V 0 = 0 from rfl, (zero_fin hg).2, zero_cw]⟩, fun q => by cases q⟩, by with_reducible assumption, by with_reducible assumption, by with_reducible assumption, Ext.refl _⟩
    case round =>
      clear g0 g1
      have hx0 := hx
      clear hx
      obtain ⟨k, zs, zd, zc, rfl, hk, rfl, rfl, rfl, hI, hs, g0, g1, hx⟩ := hrel
      by_cases hlt : k < n
      · obtain ⟨gl, rfl, q2, hcl⟩ := HP.out (by omega)
        have h1 : ((k : Nat) : Int) < (n : Int) := by omega
        have h0 : (0 : Int) ≤ (k : Int) := by omega
        have h2 : ((k : Int)).toNat = k := by omega
        have u1 : IntKind.i64.wrap ((k : Int) + 1) = (k : Int) + 1 := IntWalk.i64_in _ (by omega)
        have ga : wr.cell? ⟨gl, k, none⟩ = some (.float .f32 (cw (unitsV e f (V k)))) := by
          have := (hx.cells _ _ q2).trans (hcl k hlt)
          rwa [int_cw] at this
        have hVk := hV k hlt
        have NWC := Lib.hid (fun w => cs_nwe e f V k hg hVk zs zc hI w)
        have NEC := Lib.hid (fun s d hm gl cap w c0 c1 hgl => cs_near e f V k hg hVk s d zc hm gl cap w c0 c1 hgl)
        clear hI hcl q2
        generalize cw (unitsV e f (V k)) = xk at *
        go_wp2_with (first | (go_at_call 77; refine (NWC.out _).mono ?_; rintro rv w2 ⟨s, d, rfl, hq, hb⟩; have HM := Lib.hid hq; clear hq; have ns : w.heap.size < w2.heap.size := hb.ltK; have n0 : w2.cell? ⟨w.heap.size, 0, none⟩ = some (.int .i64 e) := hb.cellK; have n1 : w2.cell? ⟨w.heap.size, 1, none⟩ = some (.int .i64 f) := hb.cellK; (first | (have nx := Ext.trans hx hb; clear hx) | (have nx := Ext.trans (hx.alloc _) hb; clear hx) | (have nx := Ext.trans hx.drew hb; clear hx) | have nx := hb); clear hb; try clear hs; try clear g0; try clear g1; have hx := nx; clear nx; have hs := ns; clear ns; have g0 := n0; clear n0; have g1 := n1; clear n1) | (go_at_call 58; refine (NEC.out s d HM.out _ _ _ ?c0w3 ?c1w3 ?c2w3).mono ?kw3; (case c0w3 => first | with_reducible assumption | (simp; done) | (simp [go_sem]; done) | (simp [go_sem, *]; done)); (case c1w3 => first | with_reducible assumption | (simp; done) | (simp [go_sem]; done) | (simp [go_sem, *]; done)); (case c2w3 => (simp; try omega));  rintro rv w3 ⟨z, rfl, hq, hb⟩; have HN := Lib.hid hq; clear hq; have ns : w.heap.size < w3.heap.size := hb.ltK; have n0 : w3.cell? ⟨w.heap.size, 0, none⟩ = some (.int .i64 e) := hb.cellK; have n1 : w3.cell? ⟨w.heap.size, 1, none⟩ = some (.int .i64 f) := hb.cellK; (first | (have nx := Ext.trans hx hb; clear hx) | (have nx := Ext.trans (hx.alloc _) hb; clear hx) | (have nx := Ext.trans hx.drew hb; clear hx) | have nx := hb); clear hb; try clear hs; try clear g0; try clear g1; have hx := nx; clear nx; have hs := ns; clear ns; have g0 := n0; clear n0; have g1 := n1; clear n1) | fail)
        go_roundw
        case rel => exact ⟨k + 1, s, d, z, by simp, by omega, rfl, rfl, rfl, HN.out, by with_reducible assumption, by with_reducible assumption, by with_reducible assumption, Ext.auK⟩
        case measure => simp [intOf]; omega
      · have h1 : ¬ ((k : Nat) : Int) < (n : Int) := by omega
        have hkn : k = n := by omega
        subst hkn
        have HI := Lib.hid hI
        clear hI
        go_wp2_with (first | (go_at_call 58; refine (NLC.out _ _ HI.out _ _ _ ?c0w2 ?c1w2 ?c2w2).mono ?kw2; (case c0w2 => first | with_reducible assumption | (simp; done) | (simp [go_sem]; done) | (simp [go_sem, *]; done)); (case c1w2 => first | with_reducible assumption | (simp; done) | (simp [go_sem]; done) | (simp [go_sem, *]; done)); (case c2w2 => (simp; try omega));  rintro rv w2 ⟨z, rfl, hq, hb⟩; have HN := Lib.hid hq; clear hq; have ns : w.heap.size < w2.heap.size := hb.ltK; have n0 : w2.cell? ⟨w.heap.size, 0, none⟩ = some (.int .i64 e) := hb.cellK; have n1 : w2.cell? ⟨w.heap.size, 1, none⟩ = some (.int .i64 f) := hb.cellK; (first | (have nx := Ext.trans hx hb; clear hx) | (have nx := Ext.trans (hx.alloc _) hb; clear hx) | (have nx := Ext.trans hx.drew hb; clear hx) | have nx := hb); clear hb; try clear hs; try clear g0; try clear g1; have hx := nx; clear nx; have hs := ns; clear ns; have g0 := n0; clear n0; have g1 := n1; clear n1) | (go_at_call 74; refine (HN.out _).mono ?_; rintro rv w4 ⟨rfl, hb⟩; have ns : w.heap.size < w4.heap.size := hb.ltK; have n0 : w4.cell? ⟨w.heap.size, 0, none⟩ = some (.int .i64 e) := hb.cellK; have n1 : w4.cell? ⟨w.heap.size, 1, none⟩ = some (.int .i64 f) := hb.cellK; (first | (have nx := Ext.trans hx hb; clear hx) | (have nx := Ext.trans (hx.alloc _) hb; clear hx) | (have nx := Ext.trans hx.drew hb; clear hx) | have nx := hb); clear hb; try clear hs; try clear g0; try clear g1; have hx := nx; clear nx; have hs := ns; clear ns; have g0 := n0; clear n0; have g1 := n1; clear n1) | fail)
        go_region_held3 (fun w' => w'.cell? ⟨w.heap.size, 0, none⟩ = some (.int .i64 e) ∧ w'.cell? ⟨w.heap.size, 1, none⟩ = some (.int .i64 f) ∧ w.heap.size < w'.heap.size) ((refine ⟨?_, ?_, ?_⟩ <;> first | with_reducible assumption | ((rw [cell_setRow_far _ _ _ _ _ (by omega)]); with_reducible assumption) | ((rw [setRow_size]); with_reducible assumption) | ((repeat rw [World.cell?_setCell_far _ _ _ _ (by simp)]); with_reducible assumption) | (simp; done) | (simp [World.setCell]; first | done | omega) | (simp [go_sem, World.cell?_alloc_past, World.cell?_setCell_far, *]; done))) ((first | (go_at_call 58; refine (NLC.out _ _ HI.out _ _ _ ?c0w2 ?c1w2 ?c2w2).mono ?kw2; (case c0w2 => first | with_reducible assumption | (simp; done) | (simp [go_sem]; done) | (simp [go_sem, *]; done)); (case c1w2 => first | with_reducible assumption | (simp; done) | (simp [go_sem]; done) | (simp [go_sem, *]; done)); (case c2w2 => (simp; try omega));  rintro rv w2 ⟨z, rfl, hq, hb⟩; have HN := Lib.hid hq; clear hq; have ns : w.heap.size < w2.heap.size := hb.ltK; have n0 : w2.cell? ⟨w.heap.size, 0, none⟩ = some (.int .i64 e) := hb.cellK; have n1 : w2.cell? ⟨w.heap.size, 1, none⟩ = some (.int .i64 f) := hb.cellK; (first | (have nx := Ext.trans hx hb; clear hx) | (have nx := Ext.trans (hx.alloc _) hb; clear hx) | (have nx := Ext.trans hx.drew hb; clear hx) | have nx := hb); clear hb; try clear hs; try clear g0; try clear g1; have hx := nx; clear nx; have hs := ns; clear ns; have g0 := n0; clear n0; have g1 := n1; clear n1) | (go_at_call 74; refine (HN.out _).mono ?_; rintro rv w4 ⟨rfl, hb⟩; have ns : w.heap.size < w4.heap.size := hb.ltK; have n0 : w4.cell? ⟨w.heap.size, 0, none⟩ = some (.int .i64 e) := hb.cellK; have n1 : w4.cell? ⟨w.heap.size, 1, none⟩ = some (.int .i64 f) := hb.cellK; (first | (have nx := Ext.trans hx hb; clear hx) | (have nx := Ext.trans (hx.alloc _) hb; clear hx) | (have nx := Ext.trans hx.drew hb; clear hx) | have nx := hb); clear hb; try clear hs; try clear g0; try clear g1; have hx := nx; clear nx; have hs := ns; clear ns; have g0 := n0; clear n0; have g1 := n1; clear n1) | fail))
        all_goals go_wp2_with fail
        all_goals go_ret2
        all_goals exact ⟨rfl, Ext.auK⟩

theorem cs_mono {e f : Int} {V : Nat → Int} {a b : Nat} (h : a ≤ b) (hb : csB e f V b = true) : csB e f V a = true := by
  induction b with
  | zero =>
    have : a = 0 := by omega
    subst this; exact hb
  | succ b ih =>
    by_cases e1 : a = b + 1
    · subst e1; exact hb
    · rw [csB_succ, Bool.and_eq_true] at hb
      exact ih (by omega) hb.1

theorem cs_first {e f : Int} {V : Nat → Int} {n : Nat} (h : csB e f V n = false) : ∃ k, k < n ∧ csB e f V k = true ∧ (nsB e f (unitsV e f (csS e f V k) + unitsV e f (V k)) = false ∨ (nsB e f (unitsV e f (csS e f V k) + unitsV e f (V k)) = true ∧ nsB e f (unitsV e f (csC e f V k) + erU e f (unitsV e f (csS e f V k) + unitsV e f (V k))) = false)) := by
  induction n with
  | zero => cases h
  | succ n ih =>
    by_cases hk : csB e f V n = true
    · refine ⟨n, by omega, hk, ?_⟩
      rw [csB_succ, hk, Bool.true_and] at h
      cases hU : nsB e f (unitsV e f (csS e f V n) + unitsV e f (V n))
      · exact Or.inl rfl
      · rw [hU, Bool.true_and] at h
        exact Or.inr ⟨rfl, h⟩
    · obtain ⟨m, a, b, c⟩ := ih (by simpa using hk)
      exact ⟨m, by omega, b, c⟩

set_option maxHeartbeats 1600000 in
theorem sComp_all (e f : Int) (V : Nat → Int) (b n : Nat) (hB : lstB e f V n = true) (hC : csB e f V n = true) (w : World) (h : w.rowIs b 3 n (fun i => .int .i64 (V i))) : Calls Try.prog 27 #[fmt e f, .slice (some ⟨b, 0, none⟩) n n] w fun rv w' => rv = .returned (.tuple #[.int .i64 (coV e f V n), .bool (coB e f V n)]) ∧ Ext w w' := by
  have hc : ∀ i, i < n → w.cell? ((⟨b, 0, none⟩ : Addr).add i) = some (.int .i64 (V i)) := fun i hi => by
    have := h.cell hi
    simp only [Addr.add]; split
    · rename_i h0; subst h0; simpa using this
    · simpa using this
  have EA := Lib.hid (fun w hc ha => exList_any e f V ⟨b, 0, none⟩ n n w hc ha)
  rw [hB] at EA
  obtain ⟨hg, h12, hV⟩ := lst_iff.1 hB
  obtain ⟨fs0, fc0⟩ := cs_fin hg n hC
  have e1 : coV e f V n = nsR e f (unitsV e f (csS e f V n) + unitsV e f (csC e f V n)) := if_pos hC
  have e2 : coB e f V n = nsB e f (unitsV e f (csS e f V n) + unitsV e f (csC e f V n)) := by unfold coB; rw [hC]; rfl
  have NSC := Lib.hid (fun w => sNearSum_yes e f (csS e f V n) (csC e f V n) (by rw [fs0, fc0]; rfl) w)
  rw [e1, e2]
  clear e1 e2 fs0 fc0
  generalize nsR e f (unitsV e f (csS e f V n) + unitsV e f (csC e f V n)) = R at *
  generalize nsB e f (unitsV e f (csS e f V n) + unitsV e f (csC e f V n)) = B at *
  go_enter Try.func27, Try.ntmps27
  go_wp2_with (go_at_call 72; refine (EA.out _ (fun i hi => (ext_add (a := (⟨b, 0, none⟩ : Addr)) (w := w) Ext.auK h.lt i).trans (hc i hi)) (by first | exact (row_ext h Ext.auK).lt | (simp; have := h.lt; omega))).mono ?_; rintro rv w1 ⟨rfl, hb⟩; have ns : w.heap.size < w1.heap.size := hb.ltK; have n0 : w1.cell? ⟨w.heap.size, 0, none⟩ = some (.int .i64 e) := hb.cellK; have n1 : w1.cell? ⟨w.heap.size, 1, none⟩ = some (.int .i64 f) := hb.cellK; (first | (have nx := Ext.trans hx hb; clear hx) | (have nx := Ext.trans (hx.alloc _) hb; clear hx) | (have nx := Ext.trans hx.drew hb; clear hx) | have nx := hb); clear hb; try clear hs; try clear g0; try clear g1; have hx := nx; clear nx; have hs := ns; clear ns; have g0 := n0; clear n0; have g1 := n1; clear n1)
  go_loopw [6, 7, 21] (fun s c x wr => ∃ k : Nat, x = .int .i64 (k : Int) ∧ k ≤ n ∧ s = .int .i64 (csS e f V k) ∧ c = .int .i64 (csC e f V k) ∧ w.heap.size < wr.heap.size ∧ wr.cell? ⟨w.heap.size, 0, none⟩ = some (.int .i64 e) ∧ wr.cell? ⟨w.heap.size, 1, none⟩ = some (.int .i64 f) ∧ Ext w wr) (fun _ _ x _ => n - (intOf x).toNat)
  case atStart => exact ⟨0, rfl, by omega, rfl, rfl, by with_reducible assumption, by with_reducible assumption, by with_reducible assumption, Ext.auK⟩
  case round =>
    clear n0 n1
    obtain ⟨k, rfl, hk, rfl, rfl, hs, g0, g1, hx⟩ := hrel
    by_cases hlt : k < n
    · have hlt2 : k < n := hlt
      have h1 : ((k : Nat) : Int) < (n : Int) := by omega
      have h0 : (0 : Int) ≤ (k : Int) := by omega
      have h2 : ((k : Int)).toNat = k := by omega
      have u1 : IntKind.i64.wrap ((k : Int) + 1) = (k : Int) + 1 := IntWalk.i64_in _ (by omega)
      have ga : wr.cell? ((⟨b, 0, none⟩ : Addr).add k) = some (.int .i64 (V k)) := (Below.cell (p := (⟨b, 0, none⟩ : Addr).add k) hx (by have e0 : ((⟨b, 0, none⟩ : Addr).add k).block = b := (by unfold Addr.add; split <;> rfl); rw [e0]; exact h.lt)).trans (hc k hlt)
      have ga2 : wr.cell? ⟨b, k, none⟩ = some (.int .i64 (V k)) := ((row_ext h hx).cell hlt)
      have hBk := cs_mono (a := k) (by omega) hC
      obtain ⟨fs, fc⟩ := cs_fin hg k hBk
      have hVk := hV k hlt2
      have both : (finB e f (csS e f V k) && finB e f (V k)) = true := by rw [fs, hVk]; rfl
      have ETC := Lib.hid (fun w => exTwo_any e f (csS e f V k) (V k) both w)
      have hBs := cs_mono (a := k + 1) (by omega) hC
      obtain ⟨nU, nV⟩ : nsB e f (unitsV e f (csS e f V k) + unitsV e f (V k)) = true ∧ nsB e f (unitsV e f (csC e f V k) + erU e f (unitsV e f (csS e f V k) + unitsV e f (V k))) = true := by
        rw [csB_succ, Bool.and_eq_true, Bool.and_eq_true] at hBs
        exact hBs.2
      obtain ⟨fe, ue⟩ := er_val fs hVk nU
      have both2 : (finB e f (csC e f V k) && finB e f (nsV e f (erU e f (unitsV e f (csS e f V k) + unitsV e f (V k))))) = true := by rw [fc, fe]; rfl
      have ESC := Lib.hid (fun w => exSum_any e f (csC e f V k) (nsV e f (erU e f (unitsV e f (csS e f V k) + unitsV e f (V k)))) both2 w)
      have e1 : nsR e f (unitsV e f (csS e f V k) + unitsV e f (V k)) = nsV e f (unitsV e f (csS e f V k) + unitsV e f (V k)) := if_pos nU
      have e2 : erR e f (unitsV e f (csS e f V k) + unitsV e f (V k)) = nsV e f (erU e f (unitsV e f (csS e f V k) + unitsV e f (V k))) := if_pos nU
      rw [e1, e2, nU] at ETC
      rw [ue, nV] at ESC
      have KS : RowKit.Hid (csS e f V (k + 1) = nsV e f (unitsV e f (csS e f V k) + unitsV e f (V k))) := Lib.hid rfl
      have KC : RowKit.Hid (csC e f V (k + 1) = nsV e f (unitsV e f (csC e f V k) + erU e f (unitsV e f (csS e f V k) + unitsV e f (V k)))) := Lib.hid rfl
      clear e1 e2 ue fe both both2 nU nV hBs hBk fs fc
      generalize nsV e f (unitsV e f (csC e f V k) + erU e f (unitsV e f (csS e f V k) + unitsV e f (V k))) = nc at *
      generalize nsV e f (erU e f (unitsV e f (csS e f V k) + unitsV e f (V k))) = ne at *
      generalize nsV e f (unitsV e f (csS e f V k) + unitsV e f (V k)) = ns1 at *
      go_wp2_with (first | (go_at_call 75; refine (ETC.out _).mono ?_; rintro rv w1 ⟨rfl, hb⟩; have ns : w.heap.size < w1.heap.size := hb.ltK; have n0 : w1.cell? ⟨w.heap.size, 0, none⟩ = some (.int .i64 e) := hb.cellK; have n1 : w1.cell? ⟨w.heap.size, 1, none⟩ = some (.int .i64 f) := hb.cellK; (first | (have nx := Ext.trans hx hb; clear hx) | (have nx := Ext.trans (hx.alloc _) hb; clear hx) | (have nx := Ext.trans hx.drew hb; clear hx) | have nx := hb); clear hb; try clear hs; try clear g0; try clear g1; have hx := nx; clear nx; have hs := ns; clear ns; have g0 := n0; clear n0; have g1 := n1; clear n1) | (go_at_call 55; refine (ESC.out _).mono ?_; rintro rv w1 ⟨rfl, hb⟩; have ns : w.heap.size < w1.heap.size := hb.ltK; have n0 : w1.cell? ⟨w.heap.size, 0, none⟩ = some (.int .i64 e) := hb.cellK; have n1 : w1.cell? ⟨w.heap.size, 1, none⟩ = some (.int .i64 f) := hb.cellK; (first | (have nx := Ext.trans hx hb; clear hx) | (have nx := Ext.trans (hx.alloc _) hb; clear hx) | (have nx := Ext.trans hx.drew hb; clear hx) | have nx := hb); clear hb; try clear hs; try clear g0; try clear g1; have hx := nx; clear nx; have hs := ns; clear ns; have g0 := n0; clear n0; have g1 := n1; clear n1))
      go_roundw
      case rel => exact ⟨k + 1, by simp, by omega, by rw [KS.out], by rw [KC.out], by with_reducible assumption, by with_reducible assumption, by with_reducible assumption, by with_reducible assumption⟩
      case measure => simp [intOf]; omega
    · have h1 : ¬ ((k : Nat) : Int) < (n : Int) := by omega
      have hkn : k = n := by omega
      subst hkn
      go_wp2_with (go_at_call 76; refine (NSC.out _).mono ?_; rintro rv w1 ⟨rfl, hb⟩; have ns : w.heap.size < w1.heap.size := hb.ltK; have n0 : w1.cell? ⟨w.heap.size, 0, none⟩ = some (.int .i64 e) := hb.cellK; have n1 : w1.cell? ⟨w.heap.size, 1, none⟩ = some (.int .i64 f) := hb.cellK; (first | (have nx := Ext.trans hx hb; clear hx) | (have nx := Ext.trans (hx.alloc _) hb; clear hx) | (have nx := Ext.trans hx.drew hb; clear hx) | have nx := hb); clear hb; try clear hs; try clear g0; try clear g1; have hx := nx; clear nx; have hs := ns; clear ns; have g0 := n0; clear n0; have g1 := n1; clear n1)
      go_ret2
      exact ⟨rfl, Ext.auK⟩

set_option maxHeartbeats 1600000 in
theorem sComp_stop (e f : Int) (V : Nat → Int) (b n m : Nat) (hB : lstB e f V n = true) (hm : m < n) (hC : csB e f V m = true) (hN : nsB e f (unitsV e f (csS e f V m) + unitsV e f (V m)) = false ∨ (nsB e f (unitsV e f (csS e f V m) + unitsV e f (V m)) = true ∧ nsB e f (unitsV e f (csC e f V m) + erU e f (unitsV e f (csS e f V m) + unitsV e f (V m))) = false)) (w : World) (h : w.rowIs b 3 n (fun i => .int .i64 (V i))) : Calls Try.prog 27 #[fmt e f, .slice (some ⟨b, 0, none⟩) n n] w fun rv w' => rv = .returned (.tuple #[.int .i64 0, .bool false]) ∧ Ext w w' := by
  have hc : ∀ i, i < n → w.cell? ((⟨b, 0, none⟩ : Addr).add i) = some (.int .i64 (V i)) := fun i hi => by
    have := h.cell hi
    simp only [Addr.add]; split
    · rename_i h0; subst h0; simpa using this
    · simpa using this
  have EA := Lib.hid (fun w hc ha => exList_any e f V ⟨b, 0, none⟩ n n w hc ha)
  rw [hB] at EA
  obtain ⟨hg, h12, hV⟩ := lst_iff.1 hB
  go_enter Try.func27, Try.ntmps27
  go_wp2_with (go_at_call 72; refine (EA.out _ (fun i hi => (ext_add (a := (⟨b, 0, none⟩ : Addr)) (w := w) Ext.auK h.lt i).trans (hc i hi)) (by first | exact (row_ext h Ext.auK).lt | (simp; have := h.lt; omega))).mono ?_; rintro rv w1 ⟨rfl, hb⟩; have ns : w.heap.size < w1.heap.size := hb.ltK; have n0 : w1.cell? ⟨w.heap.size, 0, none⟩ = some (.int .i64 e) := hb.cellK; have n1 : w1.cell? ⟨w.heap.size, 1, none⟩ = some (.int .i64 f) := hb.cellK; (first | (have nx := Ext.trans hx hb; clear hx) | (have nx := Ext.trans (hx.alloc _) hb; clear hx) | (have nx := Ext.trans hx.drew hb; clear hx) | have nx := hb); clear hb; try clear hs; try clear g0; try clear g1; have hx := nx; clear nx; have hs := ns; clear ns; have g0 := n0; clear n0; have g1 := n1; clear n1)
  go_loopw [6, 7, 21] (fun s c x wr => ∃ k : Nat, x = .int .i64 (k : Int) ∧ k ≤ m ∧ s = .int .i64 (csS e f V k) ∧ c = .int .i64 (csC e f V k) ∧ w.heap.size < wr.heap.size ∧ wr.cell? ⟨w.heap.size, 0, none⟩ = some (.int .i64 e) ∧ wr.cell? ⟨w.heap.size, 1, none⟩ = some (.int .i64 f) ∧ Ext w wr) (fun _ _ x _ => n - (intOf x).toNat)
  case atStart => exact ⟨0, rfl, by omega, rfl, rfl, by with_reducible assumption, by with_reducible assumption, by with_reducible assumption, Ext.auK⟩
  case round =>
    clear n0 n1
    obtain ⟨k, rfl, hk, rfl, rfl, hs, g0, g1, hx⟩ := hrel
    have hlt2 : k < n := by omega
    have h1 : ((k : Nat) : Int) < (n : Int) := by omega
    have h0 : (0 : Int) ≤ (k : Int) := by omega
    have h2 : ((k : Int)).toNat = k := by omega
    have u1 : IntKind.i64.wrap ((k : Int) + 1) = (k : Int) + 1 := IntWalk.i64_in _ (by omega)
    have ga : wr.cell? ((⟨b, 0, none⟩ : Addr).add k) = some (.int .i64 (V k)) := (Below.cell (p := (⟨b, 0, none⟩ : Addr).add k) hx (by have e0 : ((⟨b, 0, none⟩ : Addr).add k).block = b := (by unfold Addr.add; split <;> rfl); rw [e0]; exact h.lt)).trans (hc k hlt2)
    have ga2 : wr.cell? ⟨b, k, none⟩ = some (.int .i64 (V k)) := ((row_ext h hx).cell hlt2)
    have hBk := cs_mono (a := k) (by omega) hC
    obtain ⟨fs, fc⟩ := cs_fin hg k hBk
    have hVk := hV k hlt2
    have both : (finB e f (csS e f V k) && finB e f (V k)) = true := by rw [fs, hVk]; rfl
    have ETC := Lib.hid (fun w => exTwo_any e f (csS e f V k) (V k) both w)
    by_cases hlt : k < m
    · skip
      have hBs := cs_mono (a := k + 1) (by omega) hC
      obtain ⟨nU, nV⟩ : nsB e f (unitsV e f (csS e f V k) + unitsV e f (V k)) = true ∧ nsB e f (unitsV e f (csC e f V k) + erU e f (unitsV e f (csS e f V k) + unitsV e f (V k))) = true := by
        rw [csB_succ, Bool.and_eq_true, Bool.and_eq_true] at hBs
        exact hBs.2
      obtain ⟨fe, ue⟩ := er_val fs hVk nU
      have both2 : (finB e f (csC e f V k) && finB e f (nsV e f (erU e f (unitsV e f (csS e f V k) + unitsV e f (V k))))) = true := by rw [fc, fe]; rfl
      have ESC := Lib.hid (fun w => exSum_any e f (csC e f V k) (nsV e f (erU e f (unitsV e f (csS e f V k) + unitsV e f (V k)))) both2 w)
      have e1 : nsR e f (unitsV e f (csS e f V k) + unitsV e f (V k)) = nsV e f (unitsV e f (csS e f V k) + unitsV e f (V k)) := if_pos nU
      have e2 : erR e f (unitsV e f (csS e f V k) + unitsV e f (V k)) = nsV e f (erU e f (unitsV e f (csS e f V k) + unitsV e f (V k))) := if_pos nU
      rw [e1, e2, nU] at ETC
      rw [ue, nV] at ESC
      have KS : RowKit.Hid (csS e f V (k + 1) = nsV e f (unitsV e f (csS e f V k) + unitsV e f (V k))) := Lib.hid rfl
      have KC : RowKit.Hid (csC e f V (k + 1) = nsV e f (unitsV e f (csC e f V k) + erU e f (unitsV e f (csS e f V k) + unitsV e f (V k)))) := Lib.hid rfl
      clear e1 e2 ue fe both both2 nU nV hBs hBk fs fc
      generalize nsV e f (unitsV e f (csC e f V k) + erU e f (unitsV e f (csS e f V k) + unitsV e f (V k))) = nc at *
      generalize nsV e f (erU e f (unitsV e f (csS e f V k) + unitsV e f (V k))) = ne at *
      generalize nsV e f (unitsV e f (csS e f V k) + unitsV e f (V k)) = ns1 at *
      go_wp2_with (first | (go_at_call 75; refine (ETC.out _).mono ?_; rintro rv w1 ⟨rfl, hb⟩; have ns : w.heap.size < w1.heap.size := hb.ltK; have n0 : w1.cell? ⟨w.heap.size, 0, none⟩ = some (.int .i64 e) := hb.cellK; have n1 : w1.cell? ⟨w.heap.size, 1, none⟩ = some (.int .i64 f) := hb.cellK; (first | (have nx := Ext.trans hx hb; clear hx) | (have nx := Ext.trans (hx.alloc _) hb; clear hx) | (have nx := Ext.trans hx.drew hb; clear hx) | have nx := hb); clear hb; try clear hs; try clear g0; try clear g1; have hx := nx; clear nx; have hs := ns; clear ns; have g0 := n0; clear n0; have g1 := n1; clear n1) | (go_at_call 55; refine (ESC.out _).mono ?_; rintro rv w1 ⟨rfl, hb⟩; have ns : w.heap.size < w1.heap.size := hb.ltK; have n0 : w1.cell? ⟨w.heap.size, 0, none⟩ = some (.int .i64 e) := hb.cellK; have n1 : w1.cell? ⟨w.heap.size, 1, none⟩ = some (.int .i64 f) := hb.cellK; (first | (have nx := Ext.trans hx hb; clear hx) | (have nx := Ext.trans (hx.alloc _) hb; clear hx) | (have nx := Ext.trans hx.drew hb; clear hx) | have nx := hb); clear hb; try clear hs; try clear g0; try clear g1; have hx := nx; clear nx; have hs := ns; clear ns; have g0 := n0; clear n0; have g1 := n1; clear n1))
      go_roundw
      case rel => exact ⟨k + 1, by simp, by omega, by rw [KS.out], by rw [KC.out], by with_reducible assumption, by with_reducible assumption, by with_reducible assumption, by with_reducible assumption⟩
      case measure => simp [intOf]; omega
    · have hkm : k = m := by omega
      subst hkm
      rcases hN with nU | ⟨nU, nV⟩
      · rw [nU] at ETC
        clear hBk fs fc both
        generalize nsR e f (unitsV e f (csS e f V k) + unitsV e f (V k)) = r1 at *
        generalize erR e f (unitsV e f (csS e f V k) + unitsV e f (V k)) = r2 at *
        go_wp2_with (go_at_call 75; refine (ETC.out _).mono ?_; rintro rv w1 ⟨rfl, hb⟩; have ns : w.heap.size < w1.heap.size := hb.ltK; have n0 : w1.cell? ⟨w.heap.size, 0, none⟩ = some (.int .i64 e) := hb.cellK; have n1 : w1.cell? ⟨w.heap.size, 1, none⟩ = some (.int .i64 f) := hb.cellK; (first | (have nx := Ext.trans hx hb; clear hx) | (have nx := Ext.trans (hx.alloc _) hb; clear hx) | (have nx := Ext.trans hx.drew hb; clear hx) | have nx := hb); clear hb; try clear hs; try clear g0; try clear g1; have hx := nx; clear nx; have hs := ns; clear ns; have g0 := n0; clear n0; have g1 := n1; clear n1)
        go_ret2
        exact ⟨rfl, Ext.auK⟩
      · obtain ⟨fe, ue⟩ := er_val fs hVk nU
        have both2 : (finB e f (csC e f V k) && finB e f (nsV e f (erU e f (unitsV e f (csS e f V k) + unitsV e f (V k))))) = true := by rw [fc, fe]; rfl
        have ESC := Lib.hid (fun w => exSum_any e f (csC e f V k) (nsV e f (erU e f (unitsV e f (csS e f V k) + unitsV e f (V k)))) both2 w)
        have e1 : nsR e f (unitsV e f (csS e f V k) + unitsV e f (V k)) = nsV e f (unitsV e f (csS e f V k) + unitsV e f (V k)) := if_pos nU
        have e2 : erR e f (unitsV e f (csS e f V k) + unitsV e f (V k)) = nsV e f (erU e f (unitsV e f (csS e f V k) + unitsV e f (V k))) := if_pos nU
        rw [e1, e2, nU] at ETC
        rw [ue, nV] at ESC
        clear e1 e2 ue fe both both2 nU nV hBk fs fc
        generalize nsV e f (unitsV e f (csC e f V k) + erU e f (unitsV e f (csS e f V k) + unitsV e f (V k))) = nc at *
        generalize nsV e f (erU e f (unitsV e f (csS e f V k) + unitsV e f (V k))) = ne at *
        generalize nsV e f (unitsV e f (csS e f V k) + unitsV e f (V k)) = ns1 at *
        go_wp2_with (first | (go_at_call 75; refine (ETC.out _).mono ?_; rintro rv w1 ⟨rfl, hb⟩; have ns : w.heap.size < w1.heap.size := hb.ltK; have n0 : w1.cell? ⟨w.heap.size, 0, none⟩ = some (.int .i64 e) := hb.cellK; have n1 : w1.cell? ⟨w.heap.size, 1, none⟩ = some (.int .i64 f) := hb.cellK; (first | (have nx := Ext.trans hx hb; clear hx) | (have nx := Ext.trans (hx.alloc _) hb; clear hx) | (have nx := Ext.trans hx.drew hb; clear hx) | have nx := hb); clear hb; try clear hs; try clear g0; try clear g1; have hx := nx; clear nx; have hs := ns; clear ns; have g0 := n0; clear n0; have g1 := n1; clear n1) | (go_at_call 55; refine (ESC.out _).mono ?_; rintro rv w1 ⟨rfl, hb⟩; have ns : w.heap.size < w1.heap.size := hb.ltK; have n0 : w1.cell? ⟨w.heap.size, 0, none⟩ = some (.int .i64 e) := hb.cellK; have n1 : w1.cell? ⟨w.heap.size, 1, none⟩ = some (.int .i64 f) := hb.cellK; (first | (have nx := Ext.trans hx hb; clear hx) | (have nx := Ext.trans (hx.alloc _) hb; clear hx) | (have nx := Ext.trans hx.drew hb; clear hx) | have nx := hb); clear hb; try clear hs; try clear g0; try clear g1; have hx := nx; clear nx; have hs := ns; clear ns; have g0 := n0; clear n0; have g1 := n1; clear n1))
        go_ret2
        exact ⟨rfl, Ext.auK⟩

theorem sCompensatedSum_row (e f : Int) (V : Nat → Int) (b n : Nat) (w : World) (h : w.rowIs b 3 n (fun i => .int .i64 (V i))) : Calls Try.prog 27 #[fmt e f, .slice (some ⟨b, 0, none⟩) n n] w fun rv w' => rv = .returned (.tuple #[.int .i64 (cmV e f V n), .bool (cmB e f V n)]) ∧ Ext w w' := by
  cases hB : lstB e f V n
  · have e1 : cmV e f V n = 0 := by unfold cmV; rw [hB]; rfl
    have e2 : cmB e f V n = false := by unfold cmB; rw [hB]; rfl
    rw [e1, e2]
    clear e1 e2
    have hc : ∀ i, i < n → w.cell? ((⟨b, 0, none⟩ : Addr).add i) = some (.int .i64 (V i)) := fun i hi => by
      have := h.cell hi
      simp only [Addr.add]; split
      · rename_i h0; subst h0; simpa using this
      · simpa using this
    have EA := Lib.hid (fun w hc ha => exList_any e f V ⟨b, 0, none⟩ n n w hc ha)
    rw [hB] at EA
    go_enter Try.func27, Try.ntmps27
    go_wp2_with (go_at_call 72; refine (EA.out _ (fun i hi => (ext_add (a := (⟨b, 0, none⟩ : Addr)) (w := w) Ext.auK h.lt i).trans (hc i hi)) (by first | exact (row_ext h Ext.auK).lt | (simp; have := h.lt; omega))).mono ?_; rintro rv w1 ⟨rfl, hb⟩; have ns : w.heap.size < w1.heap.size := hb.ltK; have n0 : w1.cell? ⟨w.heap.size, 0, none⟩ = some (.int .i64 e) := hb.cellK; have n1 : w1.cell? ⟨w.heap.size, 1, none⟩ = some (.int .i64 f) := hb.cellK; (first | (have nx := Ext.trans hx hb; clear hx) | (have nx := Ext.trans (hx.alloc _) hb; clear hx) | (have nx := Ext.trans hx.drew hb; clear hx) | have nx := hb); clear hb; try clear hs; try clear g0; try clear g1; have hx := nx; clear nx; have hs := ns; clear ns; have g0 := n0; clear n0; have g1 := n1; clear n1)
    go_ret2
    exact ⟨rfl, Ext.auK⟩
  · have e1 : cmV e f V n = coV e f V n := by unfold cmV; rw [hB]; rfl
    have e2 : cmB e f V n = coB e f V n := by unfold cmB; rw [hB]; rfl
    rw [e1, e2]
    clear e1 e2
    by_cases hC : csB e f V n = true
    · exact sComp_all e f V b n hB hC w h
    · have hC2 : csB e f V n = false := by simpa using hC
      obtain ⟨m, hm, hCm, hN⟩ := cs_first hC2
      have e1 : coV e f V n = 0 := if_neg hC
      have e2 : coB e f V n = false := by unfold coB; rw [hC2]; rfl
      rw [e1, e2]
      exact sComp_stop e f V b n m hB hm hCm hN w h

set_option maxHeartbeats 3200000 in
theorem wCompensatedSum (e f : Int) (p : Option Addr) (n cap : Nat) (V : Nat → Int) (w : World) (hold : HoldsL w p n V) : Calls Try.prog 7 #[fmt e f, .slice p n cap] w fun rv w' => rv = .returned (.bool true) ∧ Ext w w' := by
  by_cases hn : n ≤ 1048576
  · have h12 : ¬ (1048576 : Int) < (n : Int) := by omega
    have SA := Lib.hid (fun b w h => sCompensatedSum_row e f V b n w h)
    have IA := Lib.hid (fun b w h => iCompensatedSum_row e f V b n w h)
    generalize cmV e f V n = N at *
    generalize cmB e f V n = B at *
    cases B
    all_goals
      go_enter Try.func7, Try.ntmps7
      go_wp2_with (first | (go_at_call 15; refine (toFormat_any e f _).mono ?_; rintro rv w1 ⟨rfl, hb⟩; (try (have Q9 := Lib.hid (row_ext Q.out (Ext.trans Ext.auK hb)); clear Q; have Q := Q9; clear Q9)); (try (have R9 := Lib.hid (row_ext R.out (Ext.trans Ext.auK hb)); clear R; have R := R9; clear R9)); have ns : w.heap.size < w1.heap.size := hb.ltK; have n0 : w1.cell? ⟨w.heap.size, 0, none⟩ = some (.int .i64 e) := hb.cellK; have n1 : w1.cell? ⟨w.heap.size, 1, none⟩ = some (.int .i64 f) := hb.cellK; (first | (have nx := Ext.trans hx hb; clear hx) | (have nx := Ext.trans (hx.alloc _) hb; clear hx) | (have nx := Ext.trans hx.drew hb; clear hx) | have nx := hb); clear hb; try clear hs; try clear g0; try clear g1; have hx := nx; clear nx; have hs := ns; clear ns; have g0 := n0; clear n0; have g1 := n1; clear n1) | (go_at_call 25; refine (toIntS_any p n cap V hn _ (hold.ext Ext.auK)).mono ?_; rintro rv w1 ⟨b, rfl, hq, hrow, hb⟩; (try clear Q); (try (have Q := Lib.hid (row_ext R.out (Ext.trans Ext.auK hb)); clear R)); have R := Lib.hid hrow; clear hrow hq; have ns : w.heap.size < w1.heap.size := hb.ltK; have n0 : w1.cell? ⟨w.heap.size, 0, none⟩ = some (.int .i64 e) := hb.cellK; have n1 : w1.cell? ⟨w.heap.size, 1, none⟩ = some (.int .i64 f) := hb.cellK; (first | (have nx := Ext.trans hx hb; clear hx) | (have nx := Ext.trans (hx.alloc _) hb; clear hx) | (have nx := Ext.trans hx.drew hb; clear hx) | have nx := hb); clear hb; try clear hs; try clear g0; try clear g1; have hx := nx; clear nx; have hs := ns; clear ns; have g0 := n0; clear n0; have g1 := n1; clear n1) | (go_at_call 27; refine (SA.out _ _ (row_ext R.out Ext.auK)).mono ?_; rintro rv w1 ⟨rfl, hb⟩; (try (have Q9 := Lib.hid (row_ext Q.out (Ext.trans Ext.auK hb)); clear Q; have Q := Q9; clear Q9)); (try (have R9 := Lib.hid (row_ext R.out (Ext.trans Ext.auK hb)); clear R; have R := R9; clear R9)); have ns : w.heap.size < w1.heap.size := hb.ltK; have n0 : w1.cell? ⟨w.heap.size, 0, none⟩ = some (.int .i64 e) := hb.cellK; have n1 : w1.cell? ⟨w.heap.size, 1, none⟩ = some (.int .i64 f) := hb.cellK; (first | (have nx := Ext.trans hx hb; clear hx) | (have nx := Ext.trans (hx.alloc _) hb; clear hx) | (have nx := Ext.trans hx.drew hb; clear hx) | have nx := hb); clear hb; try clear hs; try clear g0; try clear g1; have hx := nx; clear nx; have hs := ns; clear ns; have g0 := n0; clear n0; have g1 := n1; clear n1) | (go_at_call 28; refine (IA.out _ _ (row_ext R.out Ext.auK)).mono ?_; rintro rv w1 ⟨rfl, hb⟩; (try (have Q9 := Lib.hid (row_ext Q.out (Ext.trans Ext.auK hb)); clear Q; have Q := Q9; clear Q9)); (try (have R9 := Lib.hid (row_ext R.out (Ext.trans Ext.auK hb)); clear R; have R := R9; clear R9)); have ns : w.heap.size < w1.heap.size := hb.ltK; have n0 : w1.cell? ⟨w.heap.size, 0, none⟩ = some (.int .i64 e) := hb.cellK; have n1 : w1.cell? ⟨w.heap.size, 1, none⟩ = some (.int .i64 f) := hb.cellK; (first | (have nx := Ext.trans hx hb; clear hx) | (have nx := Ext.trans (hx.alloc _) hb; clear hx) | (have nx := Ext.trans hx.drew hb; clear hx) | have nx := hb); clear hb; try clear hs; try clear g0; try clear g1; have hx := nx; clear nx; have hs := ns; clear ns; have g0 := n0; clear n0; have g1 := n1; clear n1) | (go_at_call 19; refine (eqIntS_same _ _ n n n V hn _ (row_ext Q.out Ext.auK) (row_ext R.out Ext.auK)).mono ?_; rintro rv w1 ⟨rfl, hb⟩; have ns : w.heap.size < w1.heap.size := hb.ltK; have n0 : w1.cell? ⟨w.heap.size, 0, none⟩ = some (.int .i64 e) := hb.cellK; have n1 : w1.cell? ⟨w.heap.size, 1, none⟩ = some (.int .i64 f) := hb.cellK; (first | (have nx := Ext.trans hx hb; clear hx) | (have nx := Ext.trans (hx.alloc _) hb; clear hx) | (have nx := Ext.trans hx.drew hb; clear hx) | have nx := hb); clear hb; try clear hs; try clear g0; try clear g1; have hx := nx; clear nx; have hs := ns; clear ns; have g0 := n0; clear n0; have g1 := n1; clear n1))
      go_ret
      exact ⟨rfl, Ext.auK⟩
  · have h12 : (1048576 : Int) < (n : Int) := by omega
    go_enter Try.func7, Try.ntmps7
    go_wp2_with fail
    go_ret
    exact ⟨rfl, Ext.auK⟩
end Go.Proofs.Ytjebechmedhidaa

