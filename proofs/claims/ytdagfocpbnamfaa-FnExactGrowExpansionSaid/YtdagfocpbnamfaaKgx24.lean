/-
  Contracts of the functions that the laws reach, and the plain facts that they rest on, each under the conditions that its line names; part 24.
-/
import Derived.Test.YtdagfocpbnamfaaKgx1
import Derived.Test.YtdagfocpbnamfaaKgx2
import Derived.Test.YtdagfocpbnamfaaKgx3
import Derived.Test.YtdagfocpbnamfaaKgx4
import Derived.Test.YtdagfocpbnamfaaKgx5
import Derived.Test.YtdagfocpbnamfaaKgx6
import Derived.Test.YtdagfocpbnamfaaKgx7
import Derived.Test.YtdagfocpbnamfaaKgx8
import Derived.Test.YtdagfocpbnamfaaKgx9
import Derived.Test.YtdagfocpbnamfaaKgx10
import Derived.Test.YtdagfocpbnamfaaKgx11
import Derived.Test.YtdagfocpbnamfaaKgx12
import Derived.Test.YtdagfocpbnamfaaKgx13
import Derived.Test.YtdagfocpbnamfaaKgx14
import Derived.Test.YtdagfocpbnamfaaKgx15
import Derived.Test.YtdagfocpbnamfaaKgx16
import Derived.Test.YtdagfocpbnamfaaKgx17
import Derived.Test.YtdagfocpbnamfaaKgx18
import Derived.Test.YtdagfocpbnamfaaKgx19
import Derived.Test.YtdagfocpbnamfaaKgx20
import Derived.Test.YtdagfocpbnamfaaKgx21
import Derived.Test.YtdagfocpbnamfaaKgx22
import Derived.Test.YtdagfocpbnamfaaKgx23
import Derived.Test.YtdagfocpbnamfaaRows
import Derived.WalkKit
import Derived.LoopTactic
import Derived.Deep.OwnRows
import Derived.LoopN
import Derived.Deep.LoopGhost
import Derived.Laws.Bits64b
import Derived.WalkSpells
import Derived.WalkLawsBesides
import Derived.StillTactics
import Derived.Laws.Pointers
import Derived.Deep.RegionHeld3
import Derived.Deep.QuietTactic
import Derived.BigQuiet
import Derived.Outline
import Derived.Lib.Hide
import Derived.RowKit3
import Derived.Carry
import Derived.IntWalk
import Derived.Lib.BitFns
import Derived.Lib.TrailingZeros
import Derived.Laws.OwnMore
import Derived.OwnWalk
import Derived.Deep.AppendLies
import Derived.Shelf.SlicesE.DeleteFunc
import Derived.Ground.SlgfProg
namespace Go.Proofs.Ytdagfocpbnamfaa
open Go Go.RowKit
set_option linter.unusedSimpArgs false
set_option linter.unusedVariables false
set_option maxRecDepth 100000

theorem ext_add {w w' : World} {a : Addr} (h : Ext w w') (ha : a.block < w.heap.size) (i : Nat) : w'.cell? (a.add i) = w.cell? (a.add i) :=
  Below.cell (p := a.add i) h (by have e : (a.add i).block = a.block := (by unfold Addr.add; split <;> rfl)
                                  rw [e]; exact ha)

theorem exList_long (e f : Int) (V : Nat → Int) (a : Addr) (n cap : Nat) (hn : 12 < n) (w : World) : Calls Try.prog 63 #[fmt e f, .slice (some a) n cap] w fun rv w' => rv = .returned (.bool false) ∧ Ext w w' := by
  have h1 : (12 : Int) < (n : Int) := by omega
  go_enter Try.func63, Try.ntmps63
  go_wp2
  go_ret
  exact ⟨rfl, (by repeat (first | exact Ext.refl _ | with_reducible assumption | apply Ext.alloc | apply Ext.drew | apply Ext.drewN | (refine Ext.setRow ?_ (by first | (simp; done) | (simp; omega) | omega) _) | (refine Ext.setCell ?_ (by first | (simp; done) | (simp; omega) | omega) _) | (refine Ext.trans ?_ (by with_reducible assumption))))⟩

set_option maxHeartbeats 1600000 in
theorem exList_all (e f : Int) (V : Nat → Int) (a : Addr) (n cap : Nat) (hn : n ≤ 12) (hV : ∀ i, i < n → finB e f (V i) = true) (w : World) (hc : ∀ i, i < n → w.cell? (a.add i) = some (.int .i64 (V i))) (ha : a.block < w.heap.size) : Calls Try.prog 63 #[fmt e f, .slice (some a) n cap] w fun rv w' => rv = .returned (.bool (goodB e f)) ∧ Ext w w' := by
  have h12 : ¬ (12 : Int) < (n : Int) := by omega
  go_enter Try.func63, Try.ntmps63
  go_wp2
  go_loopw [12] (fun x wr => ∃ k : Nat, x = .int .i64 (k : Int) ∧ k ≤ n ∧ w.heap.size < wr.heap.size ∧ wr.cell? ⟨w.heap.size, 0, none⟩ = some (.int .i64 e) ∧ wr.cell? ⟨w.heap.size, 1, none⟩ = some (.int .i64 f) ∧ Ext w wr) (fun x _ => n - (intOf x).toNat)
  case atStart => exact ⟨0, rfl, by omega, by simp, by simp [go_sem], by simp [go_sem], Ext.new _ _⟩
  case round =>
    obtain ⟨k, rfl, hk, hs, g0, g1, hx⟩ := hrel
    by_cases hlt : k < n
    · have hlt2 : k < n := hlt
      have h1 : ((k : Nat) : Int) < (n : Int) := by omega
      have h0 : (0 : Int) ≤ (k : Int) := by omega
      have h2 : ((k : Int)).toNat = k := by omega
      have u1 : IntKind.i64.wrap ((k : Int) + 1) = (k : Int) + 1 := IntWalk.i64_in _ (by omega)
      have e0 : (a.add k).block = a.block := (by unfold Addr.add; split <;> rfl)
      have ga : wr.cell? (a.add k) = some (.int .i64 (V k)) := (Below.cell (p := a.add k) hx (by rw [e0]; exact ha)).trans (hc k hlt2)
      have hVk := hV k hlt
      have FF := Lib.hid (fun w => fmFinite_any e f (V k) w)
      rw [hVk] at FF
      go_wp2_with (go_at_call 64; refine (FF.out _).mono ?_; rintro rv w1 ⟨rfl, hb⟩; have ns : w.heap.size < w1.heap.size := hb.lt (by first | with_reducible assumption | omega | (simp; done) | (simp; omega)); have n0 : w1.cell? ⟨w.heap.size, 0, none⟩ = some (.int .i64 e) := (hb.cells _ _ (by first | with_reducible assumption | omega | (simp; done) | (simp; omega))).trans (by first | with_reducible assumption | (simp; done) | (simp; with_reducible assumption) | (rw [cell_alloc_before _ _ _ _ (by omega)]; with_reducible assumption) | (simp [go_sem, *]; done)); have n1 : w1.cell? ⟨w.heap.size, 1, none⟩ = some (.int .i64 f) := (hb.cells _ _ (by first | with_reducible assumption | omega | (simp; done) | (simp; omega))).trans (by first | with_reducible assumption | (simp; done) | (simp; with_reducible assumption) | (rw [cell_alloc_before _ _ _ _ (by omega)]; with_reducible assumption) | (simp [go_sem, *]; done)); (first | (have nx := Ext.trans hx hb; clear hx) | (have nx := Ext.trans (hx.alloc _) hb; clear hx) | (have nx := Ext.trans hx.drew hb; clear hx) | have nx := hb); clear hb; try clear hs; try clear g0; try clear g1; have hx := nx; clear nx; have hs := ns; clear ns; have g0 := n0; clear n0; have g1 := n1; clear n1)
      go_roundw
      case rel => exact ⟨k + 1, by simp, by omega, by with_reducible assumption, by with_reducible assumption, by with_reducible assumption, by with_reducible assumption⟩
      case measure => simp [intOf]; omega
    · have h1 : ¬ ((k : Nat) : Int) < (n : Int) := by omega
      go_wp2_with (go_at_call 69; refine (fmGood_any e f _).mono ?_; rintro rv w1 ⟨rfl, hb⟩; have ns : w.heap.size < w1.heap.size := hb.lt (by first | with_reducible assumption | omega | (simp; done) | (simp; omega)); have n0 : w1.cell? ⟨w.heap.size, 0, none⟩ = some (.int .i64 e) := (hb.cells _ _ (by first | with_reducible assumption | omega | (simp; done) | (simp; omega))).trans (by first | with_reducible assumption | (simp; done) | (simp; with_reducible assumption) | (rw [cell_alloc_before _ _ _ _ (by omega)]; with_reducible assumption) | (simp [go_sem, *]; done)); have n1 : w1.cell? ⟨w.heap.size, 1, none⟩ = some (.int .i64 f) := (hb.cells _ _ (by first | with_reducible assumption | omega | (simp; done) | (simp; omega))).trans (by first | with_reducible assumption | (simp; done) | (simp; with_reducible assumption) | (rw [cell_alloc_before _ _ _ _ (by omega)]; with_reducible assumption) | (simp [go_sem, *]; done)); (first | (have nx := Ext.trans hx hb; clear hx) | (have nx := Ext.trans (hx.alloc _) hb; clear hx) | (have nx := Ext.trans hx.drew hb; clear hx) | have nx := hb); clear hb; try clear hs; try clear g0; try clear g1; have hx := nx; clear nx; have hs := ns; clear ns; have g0 := n0; clear n0; have g1 := n1; clear n1)
      go_ret
      exact ⟨rfl, (by repeat (first | exact Ext.refl _ | with_reducible assumption | apply Ext.alloc | apply Ext.drew | apply Ext.drewN | (refine Ext.setRow ?_ (by first | (simp; done) | (simp; omega) | omega) _) | (refine Ext.setCell ?_ (by first | (simp; done) | (simp; omega) | omega) _) | (refine Ext.trans ?_ (by with_reducible assumption))))⟩

set_option maxHeartbeats 1600000 in
theorem exList_stop (e f : Int) (V : Nat → Int) (a : Addr) (n cap : Nat) (hn : n ≤ 12) (m : Nat) (hm : m < n) (hV : ∀ i, i < m → finB e f (V i) = true) (hb2 : finB e f (V m) = false) (w : World) (hc : ∀ i, i < n → w.cell? (a.add i) = some (.int .i64 (V i))) (ha : a.block < w.heap.size) : Calls Try.prog 63 #[fmt e f, .slice (some a) n cap] w fun rv w' => rv = .returned (.bool false) ∧ Ext w w' := by
  have h12 : ¬ (12 : Int) < (n : Int) := by omega
  go_enter Try.func63, Try.ntmps63
  go_wp2
  go_loopw [12] (fun x wr => ∃ k : Nat, x = .int .i64 (k : Int) ∧ k ≤ m ∧ w.heap.size < wr.heap.size ∧ wr.cell? ⟨w.heap.size, 0, none⟩ = some (.int .i64 e) ∧ wr.cell? ⟨w.heap.size, 1, none⟩ = some (.int .i64 f) ∧ Ext w wr) (fun x _ => n - (intOf x).toNat)
  case atStart => exact ⟨0, rfl, by omega, by simp, by simp [go_sem], by simp [go_sem], Ext.new _ _⟩
  case round =>
    obtain ⟨k, rfl, hk, hs, g0, g1, hx⟩ := hrel
    have hlt2 : k < n := by omega
    have h1 : ((k : Nat) : Int) < (n : Int) := by omega
    have h0 : (0 : Int) ≤ (k : Int) := by omega
    have h2 : ((k : Int)).toNat = k := by omega
    have u1 : IntKind.i64.wrap ((k : Int) + 1) = (k : Int) + 1 := IntWalk.i64_in _ (by omega)
    have e0 : (a.add k).block = a.block := (by unfold Addr.add; split <;> rfl)
    have ga : wr.cell? (a.add k) = some (.int .i64 (V k)) := (Below.cell (p := a.add k) hx (by rw [e0]; exact ha)).trans (hc k hlt2)
    by_cases hlt : k < m
    · have hVk := hV k hlt
      have FF := Lib.hid (fun w => fmFinite_any e f (V k) w)
      rw [hVk] at FF
      go_wp2_with (go_at_call 64; refine (FF.out _).mono ?_; rintro rv w1 ⟨rfl, hb⟩; have ns : w.heap.size < w1.heap.size := hb.lt (by first | with_reducible assumption | omega | (simp; done) | (simp; omega)); have n0 : w1.cell? ⟨w.heap.size, 0, none⟩ = some (.int .i64 e) := (hb.cells _ _ (by first | with_reducible assumption | omega | (simp; done) | (simp; omega))).trans (by first | with_reducible assumption | (simp; done) | (simp; with_reducible assumption) | (rw [cell_alloc_before _ _ _ _ (by omega)]; with_reducible assumption) | (simp [go_sem, *]; done)); have n1 : w1.cell? ⟨w.heap.size, 1, none⟩ = some (.int .i64 f) := (hb.cells _ _ (by first | with_reducible assumption | omega | (simp; done) | (simp; omega))).trans (by first | with_reducible assumption | (simp; done) | (simp; with_reducible assumption) | (rw [cell_alloc_before _ _ _ _ (by omega)]; with_reducible assumption) | (simp [go_sem, *]; done)); (first | (have nx := Ext.trans hx hb; clear hx) | (have nx := Ext.trans (hx.alloc _) hb; clear hx) | (have nx := Ext.trans hx.drew hb; clear hx) | have nx := hb); clear hb; try clear hs; try clear g0; try clear g1; have hx := nx; clear nx; have hs := ns; clear ns; have g0 := n0; clear n0; have g1 := n1; clear n1)
      go_roundw
      case rel => exact ⟨k + 1, by simp, by omega, by with_reducible assumption, by with_reducible assumption, by with_reducible assumption, by with_reducible assumption⟩
      case measure => simp [intOf]; omega
    · have hkm : k = m := by omega
      subst hkm
      have FF := Lib.hid (fun w => fmFinite_any e f (V k) w)
      rw [hb2] at FF
      go_wp2_with (go_at_call 64; refine (FF.out _).mono ?_; rintro rv w1 ⟨rfl, hb⟩; have ns : w.heap.size < w1.heap.size := hb.lt (by first | with_reducible assumption | omega | (simp; done) | (simp; omega)); have n0 : w1.cell? ⟨w.heap.size, 0, none⟩ = some (.int .i64 e) := (hb.cells _ _ (by first | with_reducible assumption | omega | (simp; done) | (simp; omega))).trans (by first | with_reducible assumption | (simp; done) | (simp; with_reducible assumption) | (rw [cell_alloc_before _ _ _ _ (by omega)]; with_reducible assumption) | (simp [go_sem, *]; done)); have n1 : w1.cell? ⟨w.heap.size, 1, none⟩ = some (.int .i64 f) := (hb.cells _ _ (by first | with_reducible assumption | omega | (simp; done) | (simp; omega))).trans (by first | with_reducible assumption | (simp; done) | (simp; with_reducible assumption) | (rw [cell_alloc_before _ _ _ _ (by omega)]; with_reducible assumption) | (simp [go_sem, *]; done)); (first | (have nx := Ext.trans hx hb; clear hx) | (have nx := Ext.trans (hx.alloc _) hb; clear hx) | (have nx := Ext.trans hx.drew hb; clear hx) | have nx := hb); clear hb; try clear hs; try clear g0; try clear g1; have hx := nx; clear nx; have hs := ns; clear ns; have g0 := n0; clear n0; have g1 := n1; clear n1)
      go_ret
      exact ⟨rfl, (by repeat (first | exact Ext.refl _ | with_reducible assumption | apply Ext.alloc | apply Ext.drew | apply Ext.drewN | (refine Ext.setRow ?_ (by first | (simp; done) | (simp; omega) | omega) _) | (refine Ext.setCell ?_ (by first | (simp; done) | (simp; omega) | omega) _) | (refine Ext.trans ?_ (by with_reducible assumption))))⟩

theorem exList_any (e f : Int) (V : Nat → Int) (a : Addr) (n cap : Nat) (w : World) (hc : ∀ i, i < n → w.cell? (a.add i) = some (.int .i64 (V i))) (ha : a.block < w.heap.size) : Calls Try.prog 63 #[fmt e f, .slice (some a) n cap] w fun rv w' => rv = .returned (.bool (lstB e f V n)) ∧ Ext w w' := by
  unfold lstB
  by_cases hn : n ≤ 12
  · by_cases hA : allF e f V n = true
    · rw [decide_eq_true hn, hA, Bool.and_true, Bool.and_true]
      exact exList_all e f V a n cap hn (allF_iff.1 hA) w hc ha
    · have hA2 : allF e f V n = false := by simpa using hA
      obtain ⟨m, hm, hV, hb⟩ := allF_not hA2
      rw [hA2, Bool.and_false]
      exact exList_stop e f V a n cap hn m hm hV hb w hc ha
  · rw [decide_eq_false hn, Bool.and_false, Bool.false_and]
    exact exList_long e f V a n cap (by omega) w

theorem lst_iff {e f : Int} {V : Nat → Int} {n : Nat} : lstB e f V n = true ↔ goodB e f = true ∧ n ≤ 12 ∧ ∀ i, i < n → finB e f (V i) = true := by
  unfold lstB; rw [Bool.and_eq_true, Bool.and_eq_true, decide_eq_true_eq, allF_iff, and_assoc]

theorem row_ext {w w' : World} {b n : Nat} {t : TypeId} {g : Nat → Value} (h : w.rowIs b t n g) (hx : Ext w w') : w'.rowIs b t n g := h.of_block (hx.block _ h.lt)
end Go.Proofs.Ytdagfocpbnamfaa

namespace Go.Proofs.Ytdagfocpbnamfaa
open Go Go.RowKit
set_option linter.unusedSimpArgs false
set_option linter.unusedVariables false
set_option maxRecDepth 100000

theorem zero_ns {e f : Int} (hg : goodB e f = true) : nsV e f 0 = 0 ∧ nsB e f 0 = true ∧ nsU e f 0 = 0 := by
  have hz : nsP e f 0 = 0 := (nsP_zero hg).2 rfl
  refine ⟨?_, ?_, ?_⟩
  · unfold nsV exV; rw [if_pos hz]
  · unfold nsB; rw [hz]; exact decide_eq_true (by have := (gr_bd2 hg).1; omega)
  · unfold nsU; rw [hz, mg_zero]; simp
end Go.Proofs.Ytdagfocpbnamfaa

namespace Go.Proofs.Ytdagfocpbnamfaa
open Go Go.RowKit
set_option linter.unusedSimpArgs false
set_option linter.unusedVariables false
set_option maxRecDepth 100000

/-- A single that is infinite or no number. -/
def BadW (x : Nat) : Prop := 2139095040 ≤ x % 2147483648 ∧ x < 4294967296

theorem bad_read {x : Nat} (h : BadW x) : (∃ s, Ieee.single.read x = .infinity s ∧ x = Ieee.single.word s Ieee.single.infRung) ∨ ∃ s t, Ieee.single.read x = .nan s t := by
  obtain ⟨h1, h2⟩ := h
  have e1 : Ieee.single.signWeight = 2147483648 := by decide
  have e2 : Ieee.single.infRung = 2139095040 := by decide
  have e3 : Ieee.single.binade = 8388608 := by decide
  unfold Ieee.Format.read
  simp only [e1, e2, e3]
  rw [if_neg (by omega), if_neg (by omega)]
  by_cases hq : x % 2147483648 = 2139095040
  · rw [if_pos hq]
    refine Or.inl ⟨_, rfl, ?_⟩
    unfold Ieee.Format.word
    rw [e1]
    by_cases hs : x / 2147483648 % 2 = 1
    · rw [if_pos (by simpa using hs)]; omega
    · rw [if_neg (by simpa using hs)]; omega
  · rw [if_neg hq]
    exact Or.inr ⟨_, _, rfl⟩

theorem bad_inf (t : Bool) : BadW (Ieee.single.word t Ieee.single.infRung) := by cases t <;> (unfold BadW; decide)

theorem sum_bad {a b : Ieee.Datum} (h : ((∃ s, a = .infinity s) ∨ ∃ s t, a = .nan s t) ∨ ((∃ s, b = .infinity s) ∨ ∃ s t, b = .nan s t)) : a.sum b = none ∨ ∃ s, a.sum b = some (.infinity s) := by
  rcases h with (⟨s, rfl⟩ | ⟨s, t, rfl⟩) | (⟨s, rfl⟩ | ⟨s, t, rfl⟩)
  · cases b with
    | number s2 m e => exact Or.inr ⟨s, rfl⟩
    | infinity s2 =>
      by_cases q : s = s2
      · exact Or.inr ⟨s, by show (if s = s2 then some (Ieee.Datum.infinity s) else none) = _; rw [if_pos q]⟩
      · exact Or.inl (by show (if s = s2 then some (Ieee.Datum.infinity s) else none) = _; rw [if_neg q])
    | nan s2 t => exact Or.inl rfl
  · exact Or.inl (by cases b <;> rfl)
  · cases a with
    | number s2 m e => exact Or.inr ⟨s, rfl⟩
    | infinity s2 =>
      by_cases q : s2 = s
      · exact Or.inr ⟨s2, by show (if s2 = s then some (Ieee.Datum.infinity s2) else none) = _; rw [if_pos q]⟩
      · exact Or.inl (by show (if s2 = s then some (Ieee.Datum.infinity s2) else none) = _; rw [if_neg q])
    | nan s2 t => exact Or.inl rfl
  · exact Or.inl (by cases a <;> rfl)

theorem opp_bad {b : Ieee.Datum} (h : (∃ s, b = .infinity s) ∨ ∃ s t, b = .nan s t) : (∃ s, b.opposite = .infinity s) ∨ ∃ s t, b.opposite = .nan s t := by
  rcases h with ⟨s, rfl⟩ | ⟨s, t, rfl⟩
  · exact Or.inl ⟨!s, rfl⟩
  · exact Or.inr ⟨!s, t, rfl⟩

theorem bad_read2 {x : Nat} (h : BadW x) : (∃ s, Ieee.single.read x = .infinity s) ∨ ∃ s t, Ieee.single.read x = .nan s t := by
  rcases bad_read h with ⟨s, q, _⟩ | q
  · exact Or.inl ⟨s, q⟩
  · exact Or.inr q

/-- What a sum or a difference of singles is, whatever they are, and how often the tape is asked. -/
def fRes (op : BinOp) (w : World) (x y : Nat) : Nat := match floatBits op .f32 x y with
  | some r => r
  | none => (Question.nanBits .f32 x y).cut (w.tape w.drawn (.nanBits .f32 x y))

def fDr (op : BinOp) (x y : Nat) : Nat := match floatBits op .f32 x y with
  | some _ => 0
  | none => 1

theorem run_fl {P : Program} (op : BinOp) (hop : op = .add ∨ op = .sub) (x y : Nat) (t : TypeId) (w : World) : (binOp op t (.float .f32 x) (.float .f32 y)).run P w = .ok (.float .f32 (fRes op w x y)) (w.drewN (fDr op x y)) := by
  unfold fRes fDr
  cases h : floatBits op .f32 x y with
  | some r => exact run_float_arith w op t .f32 x y r h
  | none =>
    rcases hop with rfl | rfl
    · have h2 : FloatKind.f32.format.add x y = none := h
      simp [binOp, Op.floatArith, h2, Question.forced]; rfl
    · have h2 : FloatKind.f32.format.sub x y = none := h
      simp [binOp, Op.floatArith, h2, Question.forced]; rfl

theorem bad_num (a b : Nat) (h1 : a < 2) (h2 : b < 8388607) : BadW (a * 2147483648 + 2139095040 + 1 + b) ∧ (a * 2147483648 + 2139095040 + 1 + b) % 2147483648 ≠ 2139095040 := by
  unfold BadW
  omega

theorem cut_bad (q x y : Nat) : BadW ((Question.nanBits .f32 x y).cut q) := by
  show BadW (q % 2 * 2 ^ 31 + 0x7f800000 + 1 + q / 2 % (2 ^ 23 - 1))
  exact (bad_num (q % 2) (q / 2 % (2 ^ 23 - 1)) (Nat.mod_lt _ (by decide)) (Nat.mod_lt _ (by decide))).1

theorem res_bad {op : BinOp} (hop : op = .add ∨ op = .sub) {w : World} {x y : Nat} (h : BadW x ∨ BadW y) : BadW (fRes op w x y) := by
  unfold fRes
  cases hf : floatBits op .f32 x y with
  | none => exact cut_bad _ _ _
  | some r =>
    show BadW r
    have key : ∀ a b : Ieee.Datum, (((∃ s, a = .infinity s) ∨ ∃ s t, a = .nan s t) ∨ ((∃ s, b = .infinity s) ∨ ∃ s t, b = .nan s t)) → (a.sum b).map Ieee.single.write = some r → BadW r := by
      intro a b q e
      rcases sum_bad q with q | ⟨s, q⟩
      · rw [q] at e; cases e
      · rw [q] at e
        have : Ieee.single.word s Ieee.single.infRung = r := Option.some.inj e
        rw [← this]
        exact bad_inf s
    rcases hop with rfl | rfl
    · refine key (Ieee.single.read x) (Ieee.single.read y) ?_ hf
      rcases h with h | h
      · exact Or.inl (bad_read2 h)
      · exact Or.inr (bad_read2 h)
    · refine key (Ieee.single.read x) (Ieee.single.read y).opposite ?_ hf
      rcases h with h | h
      · exact Or.inl (bad_read2 h)
      · exact Or.inr (opp_bad (bad_read2 h))

/-- A double that is no number. -/
def NaN64 (y : Nat) : Prop := ∃ s t, FloatKind.f64.decode y = .nan s t

theorem nan_of {n : Nat} (h : 9218868437227405312 < n % 9223372036854775808) : NaN64 n := by
  have e1 : Ieee.double.signWeight = 9223372036854775808 := by decide
  have e2 : Ieee.double.infRung = 9218868437227405312 := by decide
  have e3 : Ieee.double.binade = 4503599627370496 := by decide
  unfold NaN64
  show ∃ s t, Ieee.double.read n = .nan s t
  unfold Ieee.Format.read
  simp only [e1, e2, e3]
  rw [if_neg (by omega), if_neg (by omega), if_neg (by omega)]
  exact ⟨_, _, rfl⟩

theorem nan_num (a b : Nat) (h1 : a < 2) (h2 : b < 4503599627370495) : 9218868437227405312 < (a * 9223372036854775808 + 9218868437227405312 + 1 + b) % 9223372036854775808 := by omega

theorem nan_cut (q : Nat) : NaN64 (q % 2 * 2 ^ 63 + 0x7ff0000000000000 + 1 + q / 2 % (2 ^ 52 - 1)) :=
  nan_of (nan_num (q % 2) (q / 2 % (2 ^ 52 - 1)) (Nat.mod_lt _ (by decide)) (Nat.mod_lt _ (by decide)))

theorem nan_order {y z : Nat} (h : NaN64 y) : FloatKind.f64.format.order y z = none := by
  obtain ⟨s, t, h⟩ := h
  show (Ieee.double.read y).order _ = none
  have : Ieee.double.read y = .nan s t := h
  rw [this]
  rfl

/-- The double that comes of a single that is no number. -/
def nanD (w : World) (x : Nat) : Nat := (Question.nanConv .f64 x).cut (w.tape w.drawn (.nanConv .f64 x))

theorem nanD_nan (w : World) (x : Nat) : NaN64 (nanD w x) := nan_cut _

theorem run_widen (x : Nat) (h : ∃ s t, Ieee.single.read x = .nan s t) (w : World) : (convert 69 123 (.float .f32 x)).run Try.prog w = .ok (.float .f64 (nanD w x)) w.drew := by
  obtain ⟨s, t, h⟩ := h
  have h2 : FloatKind.f32.decode x = .nan s t := h
  have hu := Try.underlying69
  have hd := Try.underlying123
  simp [convert, run_underlying hu, run_underlying hd, Conv.floatToFloat, h2, Question.forced]; rfl

theorem isNaN_nan (y : Nat) (h : NaN64 y) (w : World) : Calls Try.prog 151 #[.float .f64 y] w fun rv w' => rv = .returned (.bool true) ∧ w = w' := by
  have o : FloatKind.f64.format.order y y = none := nan_order h
  go_enter Try.func151, Try.ntmps151
  go_wp2
  go_ret
  exact ⟨rfl, rfl⟩

theorem nearest_bad (e f : Int) (x : Nat) (hg : goodB e f = true) (h : BadW x) (w : World) : Calls Try.prog 178 #[fmt e f, .float .f32 x] w fun rv w' => rv = .returned (.float .f32 x) ∧ Ext w w' := by
  rcases bad_read h with ⟨s, _, hx⟩ | hn
  · rw [hx]
    exact nearest_ii e f s hg w
  · have CV := run_widen x hn
    have NA := Lib.hid (fun w0 w => isNaN_nan (nanD w0 x) (nanD_nan w0 x) w)
    go_enter Try.func178, Try.ntmps178
    go_wp2_with (go_at_call 151; refine (NA.out _ _).mono ?_; rintro rv w1 ⟨rfl, rfl⟩)
    go_ret
    exact ⟨rfl, (by repeat (first | exact Ext.refl _ | with_reducible assumption | apply Ext.alloc | apply Ext.drew | apply Ext.drewN | (refine Ext.setRow ?_ (by first | (simp; done) | (simp; omega) | omega) _) | (refine Ext.setCell ?_ (by first | (simp; done) | (simp; omega) | omega) _) | (refine Ext.trans ?_ (by with_reducible assumption))))⟩

/-- The size of a single that is no number. -/
def maxN (w : World) (x y : Nat) : Nat := (Question.nanMinMax .f32 true x y).cut (w.tape w.drawn (.nanMinMax .f32 true x y))

theorem maxN_nan (w : World) (x y : Nat) : ∃ s t, Ieee.single.read (maxN w x y) = .nan s t := by
  have hb : BadW (maxN w x y) ∧ (maxN w x y) % 2147483648 ≠ 2139095040 := by
    exact bad_num (w.tape w.drawn (.nanMinMax .f32 true x y) % 2) (w.tape w.drawn (.nanMinMax .f32 true x y) / 2 % (2 ^ 23 - 1)) (Nat.mod_lt _ (by decide)) (Nat.mod_lt _ (by decide))
  rcases bad_read hb.1 with ⟨s, _, hx⟩ | hn
  · exfalso
    apply hb.2
    rw [hx]
    cases s <;> decide
  · exact hn

theorem run_maxN {P : Program} (x y : Nat) (h : ∃ s t, Ieee.single.read x = .nan s t) (ts : Array TypeId) (t : TypeId) (w : World) : (Builtin.max_ ts t #[.float .f32 x, .float .f32 y]).run P w = .ok (.float .f32 (maxN w x y)) w.drew := by
  obtain ⟨s, u, h⟩ := h
  have o : FloatKind.f32.format.order x y = none := by
    show (Ieee.single.read x).order _ = none
    rw [h]; rfl
  have e : Builtin.max_ ts t #[.float .f32 x, .float .f32 y] = Builtin.max2 (.float .f32 x) (.float .f32 y) := by simp [Builtin.max_]
  rw [e]
  unfold Builtin.max2
  simp [o, Question.forced]; rfl

theorem sizeOf_nan (x : Nat) (h : ∃ s t, Ieee.single.read x = .nan s t) (w : World) : Calls Try.prog 154 #[.float .f32 x] w fun rv w' => ∃ z, rv = .returned (.float .f32 z) ∧ (∃ s t, Ieee.single.read z = .nan s t) ∧ Ext w w' := by
  have k1 : ∀ w, (Op.unary .neg (.float .f32 x)).run Try.prog w = .ok (.float .f32 (Op.negFloat .f32 x)) w := fun w => rfl
  have k2 := run_maxN (P := Try.prog) x (Op.negFloat .f32 x) h
  generalize Op.negFloat .f32 x = y at *
  go_enter Try.func154, Try.ntmps154
  go_wp2
  go_ret
  exact ⟨_, rfl, maxN_nan _ _ _, (by repeat (first | exact Ext.refl _ | with_reducible assumption | apply Ext.alloc | apply Ext.drew | apply Ext.drewN | (refine Ext.setRow ?_ (by first | (simp; done) | (simp; omega) | omega) _) | (refine Ext.setCell ?_ (by first | (simp; done) | (simp; omega) | omega) _) | (refine Ext.trans ?_ (by with_reducible assumption))))⟩

theorem archTrunc_nan (y : Nat) (h : NaN64 y) (w : World) : ∃ z n, (callFunc 176 #[.float .f64 y]).run Try.prog w = .ok (.value (.float .f64 z)) (w.drewN n) := by
  obtain ⟨s, t, h⟩ := h
  have e := run_callFunc_extern (e := Extern.MathFloor.toIntegral "math.archTrunc" .zero) Try.func176 (by kernel_rfl) (by kernel_rfl) (by kernel_rfl) (by kernel_rfl) #[.float .f64 y] w
  have key : ∃ z n, (Extern.MathFloor.toIntegral "math.archTrunc" .zero #[.float .f64 y]).run Try.prog w = .ok (.float .f64 z) (w.drewN n) := by
    have e2 : Extern.MathFloor.toIntegral "math.archTrunc" .zero #[.float .f64 y] = (if FloatKind.f64.format.quiet t = t then pure (.float .f64 y) else do
        let kept ← choose (.extern "math.Floor,Ceil,Trunc,RoundToEven.signallingNaN kept" 2)
        pure (.float .f64 (if kept == 1 then y else FloatKind.f64.encode (.nan s (FloatKind.f64.format.quiet t))))) := by
      unfold Extern.MathFloor.toIntegral
      generalize FloatKind.f64.decode = D at *
      generalize FloatKind.f64.encode = E at *
      conv => lhs; whnf
      rw [h]
    rw [e2]
    by_cases q : FloatKind.f64.format.quiet t = t
    · rw [if_pos q]
      exact ⟨y, 0, rfl⟩
    · rw [if_neg q]
      exact ⟨_, 1, by simp [Question.forced]; exact ⟨rfl, rfl⟩⟩
  obtain ⟨z, n, k⟩ := key
  exact ⟨z, n, e.trans (by rw [k]; rfl)⟩

theorem trunc_nan (y : Nat) (h : NaN64 y) (w : World) : Calls Try.prog 165 #[.float .f64 y] w fun rv w' => ∃ z, rv = .returned (.float .f64 z) ∧ Ext w w' := by
  obtain ⟨Z, N, q⟩ : ∃ (Z N : World → Nat), ∀ w, (callFunc 176 #[.float .f64 y]).run Try.prog w = .ok (.value (.float .f64 (Z w))) (w.drewN (N w)) :=
    ⟨fun w => (archTrunc_nan y h w).choose, fun w => (archTrunc_nan y h w).choose_spec.choose, fun w => (archTrunc_nan y h w).choose_spec.choose_spec⟩
  go_enter Try.func165, Try.ntmps165
  go_wp2
  go_ret
  exact ⟨_, rfl, (by repeat (first | exact Ext.refl _ | with_reducible assumption | apply Ext.alloc | apply Ext.drew | apply Ext.drewN | (refine Ext.setRow ?_ (by first | (simp; done) | (simp; omega) | omega) _) | (refine Ext.setCell ?_ (by first | (simp; done) | (simp; omega) | omega) _) | (refine Ext.trans ?_ (by with_reducible assumption))))⟩

theorem pv_bad (e f : Int) (x : Nat) (h : BadW x) (w : World) : Calls Try.prog 131 #[fmt e f, .float .f32 x] w fun rv w' => rv = .returned (.tuple #[.int .i64 0, .bool false]) ∧ Ext w w' := by
  rcases bad_read h with ⟨s, _, hx⟩ | hn
  · rw [hx]
    exact pv_inf e f s w
  · have SN := Lib.hid (fun w => sizeOf_nan x hn w)
    have TRN := Lib.hid (fun y hy w => trunc_nan y hy w)
    have ON : ∀ (w : World) (z y : Nat), FloatKind.f64.format.order (nanD w z) y = none := fun w z y => nan_order (nanD_nan w z)
    go_enter Try.func131, Try.ntmps131
    go_wp2_with (first | (go_at_call 154; refine (SN.out _).mono ?_; rintro rv w1 ⟨z, rfl, hz, hb⟩; have CV := run_widen z hz; clear hz; have ns : w.heap.size < w1.heap.size := hb.lt (by first | with_reducible assumption | omega | (simp; done) | (simp; omega)); have n0 : w1.cell? ⟨w.heap.size, 0, none⟩ = some (.int .i64 e) := (hb.cells _ _ (by first | with_reducible assumption | omega | (simp; done) | (simp; omega))).trans (by first | with_reducible assumption | (simp; done) | (simp; with_reducible assumption) | (rw [cell_alloc_before _ _ _ _ (by omega)]; with_reducible assumption) | (simp [go_sem, *]; done)); have n1 : w1.cell? ⟨w.heap.size, 1, none⟩ = some (.int .i64 f) := (hb.cells _ _ (by first | with_reducible assumption | omega | (simp; done) | (simp; omega))).trans (by first | with_reducible assumption | (simp; done) | (simp; with_reducible assumption) | (rw [cell_alloc_before _ _ _ _ (by omega)]; with_reducible assumption) | (simp [go_sem, *]; done)); (first | (have nx := Ext.trans hx hb; clear hx) | (have nx := Ext.trans (hx.alloc _) hb; clear hx) | (have nx := Ext.trans hx.drew hb; clear hx) | have nx := hb); clear hb; try clear hs; try clear g0; try clear g1; have hx := nx; clear nx; have hs := ns; clear ns; have g0 := n0; clear n0; have g1 := n1; clear n1) | (go_at_call 165; refine (TRN.out _ (nanD_nan _ _) _).mono ?_; rintro rv w1 ⟨z2, rfl, hb⟩; have ns : w.heap.size < w1.heap.size := hb.lt (by first | with_reducible assumption | omega | (simp; done) | (simp; omega)); have n0 : w1.cell? ⟨w.heap.size, 0, none⟩ = some (.int .i64 e) := (hb.cells _ _ (by first | with_reducible assumption | omega | (simp; done) | (simp; omega))).trans (by first | with_reducible assumption | (simp; done) | (simp; with_reducible assumption) | (rw [cell_alloc_before _ _ _ _ (by omega)]; with_reducible assumption) | (simp [go_sem, *]; done)); have n1 : w1.cell? ⟨w.heap.size, 1, none⟩ = some (.int .i64 f) := (hb.cells _ _ (by first | with_reducible assumption | omega | (simp; done) | (simp; omega))).trans (by first | with_reducible assumption | (simp; done) | (simp; with_reducible assumption) | (rw [cell_alloc_before _ _ _ _ (by omega)]; with_reducible assumption) | (simp [go_sem, *]; done)); (first | (have nx := Ext.trans hx hb; clear hx) | (have nx := Ext.trans (hx.alloc _) hb; clear hx) | (have nx := Ext.trans hx.drew hb; clear hx) | have nx := hb); clear hb; try clear hs; try clear g0; try clear g1; have hx := nx; clear nx; have hs := ns; clear ns; have g0 := n0; clear n0; have g1 := n1; clear n1))
    go_ret2
    exact ⟨rfl, (by repeat (first | exact Ext.refl _ | with_reducible assumption | apply Ext.alloc | apply Ext.drew | apply Ext.drewN | (refine Ext.setRow ?_ (by first | (simp; done) | (simp; omega) | omega) _) | (refine Ext.setCell ?_ (by first | (simp; done) | (simp; omega) | omega) _) | (refine Ext.trans ?_ (by with_reducible assumption))))⟩
end Go.Proofs.Ytdagfocpbnamfaa

namespace Go.Proofs.Ytdagfocpbnamfaa
open Go Go.RowKit
set_option linter.unusedSimpArgs false
set_option linter.unusedVariables false
set_option maxRecDepth 100000

/-- A single that is a value of the format, or bad. -/
def VBP (e f : Int) (x : Nat) : Prop := (∃ a, finB e f a = true ∧ x = cw (unitsV e f a)) ∨ BadW x

theorem zero_fin {e f : Int} (hg : goodB e f = true) : finB e f 0 = true ∧ unitsV e f 0 = 0 := by
  obtain ⟨z1, z2, z3⟩ := zero_ns hg
  have q1 := (ns_pat (u := 0) hg).2
  have q2 := ns_units hg z2
  rw [z1, z2] at q1
  rw [z1, z3] at q2
  exact ⟨q1, q2⟩

theorem vb_zero {e f : Int} (hg : goodB e f = true) : VBP e f 0 := by
  obtain ⟨z1, z2⟩ := zero_fin hg
  exact Or.inl ⟨0, z1, by rw [z2, zero_cw]⟩

theorem vb_nr {e f u : Int} (hg : goodB e f = true) : VBP e f (nrW e f (decide (u < 0)) (nsP e f u)) ∧ (nsB e f u = false → BadW (nrW e f (decide (u < 0)) (nsP e f u))) := by
  cases hB : nsB e f u
  · rw [nr_inf hB]
    exact ⟨Or.inr (bad_inf _), fun _ => bad_inf _⟩
  · refine ⟨Or.inl ⟨nsV e f u, fin_ns hg hB, ?_⟩, fun h => by cases h⟩
    rw [nr_cw hg hB, ns_units hg hB]

theorem good_word {e f a : Int} (ha : finB e f a = true) : ¬ BadW (cw (unitsV e f a)) := by
  intro h
  obtain ⟨m, k, h1, _⟩ := read_sw (decide (unitsV e f a < 0)) (ok_units ha)
  have h2 : Ieee.single.read (cw (unitsV e f a)) = .number (decide (unitsV e f a < 0)) m (Ieee.single.leastPlace + k) := h1
  rcases bad_read2 h with ⟨s, q⟩ | ⟨s, t, q⟩ <;> (rw [h2] at q; cases q)

theorem step_vb (e f : Int) (x y : Nat) (hg : goodB e f = true) (hx : VBP e f x) (hy : VBP e f y) (w0 w : World) :
    Calls Try.prog 178 #[fmt e f, .float .f32 (fRes .add w0 x y)] w fun rv w' => ∃ z, rv = .returned (.float .f32 z) ∧ (VBP e f z ∧ ((BadW x ∨ BadW y) → BadW z)) ∧ Ext w w' := by
  have bad : (BadW x ∨ BadW y) → Calls Try.prog 178 #[fmt e f, .float .f32 (fRes .add w0 x y)] w fun rv w' => ∃ z, rv = .returned (.float .f32 z) ∧ (VBP e f z ∧ ((BadW x ∨ BadW y) → BadW z)) ∧ Ext w w' := by
    intro h
    have hb := res_bad (op := .add) (Or.inl rfl) (w := w0) h
    refine (nearest_bad e f _ hg hb w).mono ?_
    rintro rv w' ⟨rfl, hx2⟩
    exact ⟨_, rfl, ⟨Or.inr hb, fun _ => hb⟩, hx2⟩
  rcases hx with ⟨a, ha, rfl⟩ | hx
  · rcases hy with ⟨b, hb2, rfl⟩ | hy
    · have e1 : fRes .add w0 (cw (unitsV e f a)) (cw (unitsV e f b)) = cw (unitsV e f a + unitsV e f b) := by
        unfold fRes
        rw [add_cw (ok_units ha) (ok_units hb2)]
      rw [e1]
      refine (nearest_sum e f a b ha hb2 w).mono ?_
      rintro rv w' ⟨rfl, hx2⟩
      refine ⟨_, rfl, ⟨(vb_nr hg).1, ?_⟩, hx2⟩
      rintro (h | h)
      · exact absurd h (good_word ha)
      · exact absurd h (good_word hb2)
    · exact bad (Or.inr hy)
  · exact bad (Or.inl hx)

/-- One of the first n is bad. -/
def BadIn (X : Nat → Nat) (n : Nat) : Prop := ∃ i, i < n ∧ BadW (X i)

set_option maxHeartbeats 1600000 in
theorem near_vb (e f : Int) (X : Nat → Nat) (n cap : Nat) (p : Option Addr) (hg : goodB e f = true) (hX : ∀ k, k < n → VBP e f (X k)) (hn : n ≤ 1048576) (w : World)
    (hp : 0 < n → ∃ gl, p = some ⟨gl, 0, none⟩ ∧ gl < w.heap.size ∧ ∀ i, i < n → w.cell? ⟨gl, i, none⟩ = some (.float .f32 (X i))) :
    Calls Try.prog 166 #[fmt e f, .slice p n cap] w fun rv w' => ∃ z, rv = .returned (.float .f32 z) ∧ VBP e f z ∧ (BadIn X n → BadW z) ∧ Ext w w' := by
  go_enter Try.func166, Try.ntmps166
  go_wp2
  go_loopw [5, 10] (fun y x wr => ∃ (k : Nat) (z : Nat), x = .int .i64 (k : Int) ∧ k ≤ n ∧ y = .float .f32 z ∧ (VBP e f z ∧ (BadIn X k → BadW z)) ∧ w.heap.size < wr.heap.size ∧ wr.cell? ⟨w.heap.size, 0, none⟩ = some (.int .i64 e) ∧ wr.cell? ⟨w.heap.size, 1, none⟩ = some (.int .i64 f) ∧ Ext w wr) (fun _ x _ => n - (intOf x).toNat)
  case atStart => exact ⟨0, 0, rfl, by omega, rfl, ⟨vb_zero hg, fun ⟨i, hi, _⟩ => absurd hi (by omega)⟩, by simp, by simp [go_sem], by simp [go_sem], Ext.new _ _⟩
  case round =>
    obtain ⟨k, z, rfl, hk, rfl, hI, hs, g0, g1, hx⟩ := hrel
    by_cases hlt : k < n
    · obtain ⟨gl, rfl, hgl, hcl⟩ := hp (by omega)
      have h1 : ((k : Nat) : Int) < (n : Int) := by omega
      have h0 : (0 : Int) ≤ (k : Int) := by omega
      have h2 : ((k : Int)).toNat = k := by omega
      have u1 : IntKind.i64.wrap ((k : Int) + 1) = (k : Int) + 1 := IntWalk.i64_in _ (by omega)
      have ga : wr.cell? ⟨gl, k, none⟩ = some (.float .f32 (X k)) := (hx.cells _ _ hgl).trans (hcl k hlt)
      have A0 : ∀ (t : TypeId) (w : World), (binOp .add t (.float .f32 z) (.float .f32 (X k))).run Try.prog w = .ok (.float .f32 (fRes .add w z (X k))) (w.drewN (fDr .add z (X k))) := fun t w => run_fl .add (Or.inl rfl) z (X k) t w
      have NK := Lib.hid (fun w0 w => step_vb e f z (X k) hg hI.1 (hX k hlt) w0 w)
      have HB := Lib.hid hI.2
      have HXK : RowKit.Hid (∀ i, i < k + 1 → BadW (X i) → (i < k ∧ BadW (X i)) ∨ BadW (X k)) := Lib.hid (fun i hi hb => by
        by_cases h : i < k
        · exact Or.inl ⟨h, hb⟩
        · have : i = k := by omega
          subst this; exact Or.inr hb)
      clear hI
      generalize fDr .add z (X k) = dr at *
      generalize X k = xk at *
      go_wp2_with (go_at_call 178; refine (NK.out _ _).mono ?_; rintro rv w1 ⟨z2, rfl, hz2, hb⟩; have HZ := Lib.hid hz2; clear hz2; have ns : w.heap.size < w1.heap.size := hb.lt (by first | with_reducible assumption | omega | (simp; done) | (simp; omega)); have n0 : w1.cell? ⟨w.heap.size, 0, none⟩ = some (.int .i64 e) := (hb.cells _ _ (by first | with_reducible assumption | omega | (simp; done) | (simp; omega))).trans (by first | with_reducible assumption | (simp; done) | (simp; with_reducible assumption) | (rw [cell_alloc_before _ _ _ _ (by omega)]; with_reducible assumption) | (simp [go_sem, *]; done)); have n1 : w1.cell? ⟨w.heap.size, 1, none⟩ = some (.int .i64 f) := (hb.cells _ _ (by first | with_reducible assumption | omega | (simp; done) | (simp; omega))).trans (by first | with_reducible assumption | (simp; done) | (simp; with_reducible assumption) | (rw [cell_alloc_before _ _ _ _ (by omega)]; with_reducible assumption) | (simp [go_sem, *]; done)); (first | (have nx := Ext.trans hx hb; clear hx) | (have nx := Ext.trans (hx.alloc _) hb; clear hx) | (have nx := Ext.trans hx.drew hb; clear hx) | have nx := hb); clear hb; try clear hs; try clear g0; try clear g1; have hx := nx; clear nx; have hs := ns; clear ns; have g0 := n0; clear n0; have g1 := n1; clear n1)
      go_roundw
      case rel => exact ⟨k + 1, z2, by simp, by omega, rfl, ⟨HZ.out.1, fun ⟨i, hi, hb⟩ => HZ.out.2 ((HXK.out i hi hb).elim (fun q => Or.inl (HB.out ⟨i, q⟩)) Or.inr)⟩, by with_reducible assumption, by with_reducible assumption, by with_reducible assumption, (by repeat (first | exact Ext.refl _ | with_reducible assumption | apply Ext.alloc | apply Ext.drew | apply Ext.drewN | (refine Ext.setRow ?_ (by first | (simp; done) | (simp; omega) | omega) _) | (refine Ext.setCell ?_ (by first | (simp; done) | (simp; omega) | omega) _) | (refine Ext.trans ?_ (by with_reducible assumption))))⟩
      case measure => simp [intOf]; omega
    · have h1 : ¬ ((k : Nat) : Int) < (n : Int) := by omega
      have hkn : k = n := by omega
      have HI := Lib.hid hI
      clear hI
      go_wp2_with fail
      go_ret
      subst hkn
      exact ⟨z, rfl, HI.out.1, HI.out.2, (by repeat (first | exact Ext.refl _ | with_reducible assumption | apply Ext.alloc | apply Ext.drew | apply Ext.drewN | (refine Ext.setRow ?_ (by first | (simp; done) | (simp; omega) | omega) _) | (refine Ext.setCell ?_ (by first | (simp; done) | (simp; omega) | omega) _) | (refine Ext.trans ?_ (by with_reducible assumption))))⟩

theorem near2_vb (e f : Int) (x0 x1 : Nat) (gl cap : Nat) (hg : goodB e f = true) (h0 : VBP e f x0) (h1 : VBP e f x1) (w : World) (c0 : w.cell? ⟨gl, 0, none⟩ = some (.float .f32 x0)) (c1 : w.cell? ⟨gl, 1, none⟩ = some (.float .f32 x1)) (hgl : gl < w.heap.size) :
    Calls Try.prog 166 #[fmt e f, .slice (some ⟨gl, 0, none⟩) 2 cap] w fun rv w' => ∃ z, rv = .returned (.float .f32 z) ∧ VBP e f z ∧ ((BadW x0 ∨ BadW x1) → BadW z) ∧ Ext w w' := by
  refine (near_vb e f (fun i => if i = 0 then x0 else x1) 2 cap _ hg ?_ (by decide) w (fun _ => ⟨gl, rfl, hgl, ?_⟩)).mono ?_
  · intro k hk
    show VBP e f (if k = 0 then x0 else x1)
    split
    · exact h0
    · exact h1
  · intro i hi
    show w.cell? ⟨gl, i, none⟩ = some (.float .f32 (if i = 0 then x0 else x1))
    by_cases q : i = 0
    · subst q; exact c0
    · have : i = 1 := by omega
      subst this; exact c1
  · rintro rv w' ⟨z, rfl, hz, hb, hx⟩
    refine ⟨z, rfl, hz, ?_, hx⟩
    rintro (h | h)
    · exact hb ⟨0, by decide, h⟩
    · exact hb ⟨1, by decide, h⟩

theorem sizeOf_vb (e f : Int) (x : Nat) (h : VBP e f x) (w : World) : Calls Try.prog 154 #[.float .f32 x] w fun rv w' => ∃ z, rv = .returned (.float .f32 z) ∧ Ext w w' := by
  rcases h with ⟨a, ha, rfl⟩ | h
  · refine (size_cw (unitsV e f a) (ok_units ha) w).mono ?_
    rintro rv w' ⟨rfl, hx⟩
    exact ⟨_, rfl, hx⟩
  · rcases bad_read h with ⟨s, _, hx⟩ | hn
    · rw [hx]
      refine (sizeOf_inf s w).mono ?_
      rintro rv w' ⟨rfl, hx⟩
      exact ⟨_, rfl, hx⟩
    · refine (sizeOf_nan x hn w).mono ?_
      rintro rv w' ⟨z, rfl, _, hx⟩
      exact ⟨_, rfl, hx⟩

set_option maxHeartbeats 3200000 in
theorem nwe_bad (e f : Int) (x0 x1 : Nat) (hg : goodB e f = true) (h0 : VBP e f x0) (h1 : VBP e f x1) (h : BadW x0 ∨ BadW x1) (w : World) :
    Calls Try.prog 132 #[fmt e f, .float .f32 x0, .float .f32 x1] w fun rv w' => ∃ s d, rv = .returned (.tuple #[.float .f32 s, .float .f32 d]) ∧ BadW s ∧ BadW d ∧ Ext w w' := by
  have S0 := Lib.hid (fun w => sizeOf_vb e f x0 h0 w)
  have S1 := Lib.hid (fun w => sizeOf_vb e f x1 h1 w)
  have A1 : ∀ (a b : Nat) (t : TypeId) (w : World), (binOp .sub t (.float .f32 a) (.float .f32 b)).run Try.prog w = .ok (.float .f32 (fRes .sub w a b)) (w.drewN (fDr .sub a b)) := fun a b t w => run_fl .sub (Or.inr rfl) a b t w
  have A2 : ∀ (a b : Nat) (t : TypeId) (w : World), (binOp .add t (.float .f32 a) (.float .f32 b)).run Try.prog w = .ok (.float .f32 (fRes .add w a b)) (w.drewN (fDr .add a b)) := fun a b t w => run_fl .add (Or.inl rfl) a b t w
  have HNb := Lib.hid (fun gl cap w c0 c1 hgl => near2_vb e f x1 x0 gl cap hg h1 h0 w c0 c1 hgl)
  have HNa := Lib.hid (fun gl cap w c0 c1 hgl => near2_vb e f x0 x1 gl cap hg h0 h1 w c0 c1 hgl)
  have HBb := Lib.hid h.symm
  have HBa := Lib.hid h
  clear h h0 h1
  go_enter Try.func132, Try.ntmps132
  go_wp2_with fail
  try (go_region_held3 (fun w' => w'.cell? ⟨w.heap.size, 0, none⟩ = some (.int .i64 e) ∧ w'.cell? ⟨w.heap.size, 1, none⟩ = some (.int .i64 f) ∧ w.heap.size < w'.heap.size) ((refine ⟨?_, ?_, ?_⟩ <;> first | with_reducible assumption | ((rw [cell_setRow_far _ _ _ _ _ (by omega)]); with_reducible assumption) | ((rw [setRow_size]); with_reducible assumption) | ((repeat rw [World.cell?_setCell_far _ _ _ _ (by simp)]); with_reducible assumption) | (simp; done) | (simp [World.setCell]; first | done | omega) | (simp [go_sem, World.cell?_alloc_past, World.cell?_setCell_far, *]; done))) ((first | (go_at_call 154; (with_reducible refine (S0.out _).mono ?_); rintro rv w1 ⟨z0, rfl, hb⟩; have ns : w.heap.size < w1.heap.size := hb.lt (by first | with_reducible assumption | omega | (simp; done) | (simp; omega)); have n0 : w1.cell? ⟨w.heap.size, 0, none⟩ = some (.int .i64 e) := (hb.cells _ _ (by first | with_reducible assumption | omega | (simp; done) | (simp; omega))).trans (by first | with_reducible assumption | (simp; done) | (simp; with_reducible assumption) | (rw [cell_alloc_before _ _ _ _ (by omega)]; with_reducible assumption) | (simp [go_sem, *]; done)); have n1 : w1.cell? ⟨w.heap.size, 1, none⟩ = some (.int .i64 f) := (hb.cells _ _ (by first | with_reducible assumption | omega | (simp; done) | (simp; omega))).trans (by first | with_reducible assumption | (simp; done) | (simp; with_reducible assumption) | (rw [cell_alloc_before _ _ _ _ (by omega)]; with_reducible assumption) | (simp [go_sem, *]; done)); (first | (have nx := Ext.trans hx hb; clear hx) | (have nx := Ext.trans (hx.alloc _) hb; clear hx) | (have nx := Ext.trans hx.drew hb; clear hx) | have nx := hb); clear hb; try clear hs; try clear g0; try clear g1; have hx := nx; clear nx; have hs := ns; clear ns; have g0 := n0; clear n0; have g1 := n1; clear n1) | (go_at_call 154; (with_reducible refine (S1.out _).mono ?_); rintro rv w2 ⟨z1, rfl, hb⟩; have ns : w.heap.size < w2.heap.size := hb.lt (by first | with_reducible assumption | omega | (simp; done) | (simp; omega)); have n0 : w2.cell? ⟨w.heap.size, 0, none⟩ = some (.int .i64 e) := (hb.cells _ _ (by first | with_reducible assumption | omega | (simp; done) | (simp; omega))).trans (by first | with_reducible assumption | (simp; done) | (simp; with_reducible assumption) | (rw [cell_alloc_before _ _ _ _ (by omega)]; with_reducible assumption) | (simp [go_sem, *]; done)); have n1 : w2.cell? ⟨w.heap.size, 1, none⟩ = some (.int .i64 f) := (hb.cells _ _ (by first | with_reducible assumption | omega | (simp; done) | (simp; omega))).trans (by first | with_reducible assumption | (simp; done) | (simp; with_reducible assumption) | (rw [cell_alloc_before _ _ _ _ (by omega)]; with_reducible assumption) | (simp [go_sem, *]; done)); (first | (have nx := Ext.trans hx hb; clear hx) | (have nx := Ext.trans (hx.alloc _) hb; clear hx) | (have nx := Ext.trans hx.drew hb; clear hx) | have nx := hb); clear hb; try clear hs; try clear g0; try clear g1; have hx := nx; clear nx; have hs := ns; clear ns; have g0 := n0; clear n0; have g1 := n1; clear n1))))
  all_goals (try go_wp2_with (first | (go_at_call 154; (with_reducible refine (S0.out _).mono ?_); rintro rv w1 ⟨z0, rfl, hb⟩; have ns : w.heap.size < w1.heap.size := hb.lt (by first | with_reducible assumption | omega | (simp; done) | (simp; omega)); have n0 : w1.cell? ⟨w.heap.size, 0, none⟩ = some (.int .i64 e) := (hb.cells _ _ (by first | with_reducible assumption | omega | (simp; done) | (simp; omega))).trans (by first | with_reducible assumption | (simp; done) | (simp; with_reducible assumption) | (rw [cell_alloc_before _ _ _ _ (by omega)]; with_reducible assumption) | (simp [go_sem, *]; done)); have n1 : w1.cell? ⟨w.heap.size, 1, none⟩ = some (.int .i64 f) := (hb.cells _ _ (by first | with_reducible assumption | omega | (simp; done) | (simp; omega))).trans (by first | with_reducible assumption | (simp; done) | (simp; with_reducible assumption) | (rw [cell_alloc_before _ _ _ _ (by omega)]; with_reducible assumption) | (simp [go_sem, *]; done)); (first | (have nx := Ext.trans hx hb; clear hx) | (have nx := Ext.trans (hx.alloc _) hb; clear hx) | (have nx := Ext.trans hx.drew hb; clear hx) | have nx := hb); clear hb; try clear hs; try clear g0; try clear g1; have hx := nx; clear nx; have hs := ns; clear ns; have g0 := n0; clear n0; have g1 := n1; clear n1) | (go_at_call 154; (with_reducible refine (S1.out _).mono ?_); rintro rv w2 ⟨z1, rfl, hb⟩; have ns : w.heap.size < w2.heap.size := hb.lt (by first | with_reducible assumption | omega | (simp; done) | (simp; omega)); have n0 : w2.cell? ⟨w.heap.size, 0, none⟩ = some (.int .i64 e) := (hb.cells _ _ (by first | with_reducible assumption | omega | (simp; done) | (simp; omega))).trans (by first | with_reducible assumption | (simp; done) | (simp; with_reducible assumption) | (rw [cell_alloc_before _ _ _ _ (by omega)]; with_reducible assumption) | (simp [go_sem, *]; done)); have n1 : w2.cell? ⟨w.heap.size, 1, none⟩ = some (.int .i64 f) := (hb.cells _ _ (by first | with_reducible assumption | omega | (simp; done) | (simp; omega))).trans (by first | with_reducible assumption | (simp; done) | (simp; with_reducible assumption) | (rw [cell_alloc_before _ _ _ _ (by omega)]; with_reducible assumption) | (simp [go_sem, *]; done)); (first | (have nx := Ext.trans hx hb; clear hx) | (have nx := Ext.trans (hx.alloc _) hb; clear hx) | (have nx := Ext.trans hx.drew hb; clear hx) | have nx := hb); clear hb; try clear hs; try clear g0; try clear g1; have hx := nx; clear nx; have hs := ns; clear ns; have g0 := n0; clear n0; have g1 := n1; clear n1) | (go_at_call 166; refine (HNa.out _ _ _ ?c0HNa ?c1HNa ?c2HNa).mono ?kHNa; (case c0HNa => first | with_reducible assumption | (simp; done) | (simp [go_sem]; done) | (simp [go_sem, *]; done)); (case c1HNa => first | with_reducible assumption | (simp; done) | (simp [go_sem]; done) | (simp [go_sem, *]; done)); (case c2HNa => (simp; try omega));  rintro rv w3 ⟨r, rfl, hr, hrb, hb⟩; have HR := Lib.hid (hrb HBa.out); clear hr hrb; have ns : w.heap.size < w3.heap.size := hb.lt (by first | with_reducible assumption | omega | (simp; done) | (simp; omega)); have n0 : w3.cell? ⟨w.heap.size, 0, none⟩ = some (.int .i64 e) := (hb.cells _ _ (by first | with_reducible assumption | omega | (simp; done) | (simp; omega))).trans (by first | with_reducible assumption | (simp; done) | (simp; with_reducible assumption) | (rw [cell_alloc_before _ _ _ _ (by omega)]; with_reducible assumption) | (simp [go_sem, *]; done)); have n1 : w3.cell? ⟨w.heap.size, 1, none⟩ = some (.int .i64 f) := (hb.cells _ _ (by first | with_reducible assumption | omega | (simp; done) | (simp; omega))).trans (by first | with_reducible assumption | (simp; done) | (simp; with_reducible assumption) | (rw [cell_alloc_before _ _ _ _ (by omega)]; with_reducible assumption) | (simp [go_sem, *]; done)); (first | (have nx := Ext.trans hx hb; clear hx) | (have nx := Ext.trans (hx.alloc _) hb; clear hx) | (have nx := Ext.trans hx.drew hb; clear hx) | have nx := hb); clear hb; try clear hs; try clear g0; try clear g1; have hx := nx; clear nx; have hs := ns; clear ns; have g0 := n0; clear n0; have g1 := n1; clear n1) | (go_at_call 166; refine (HNb.out _ _ _ ?c0HNb ?c1HNb ?c2HNb).mono ?kHNb; (case c0HNb => first | with_reducible assumption | (simp; done) | (simp [go_sem]; done) | (simp [go_sem, *]; done)); (case c1HNb => first | with_reducible assumption | (simp; done) | (simp [go_sem]; done) | (simp [go_sem, *]; done)); (case c2HNb => (simp; try omega));  rintro rv w3 ⟨r, rfl, hr, hrb, hb⟩; have HR := Lib.hid (hrb HBb.out); clear hr hrb; have ns : w.heap.size < w3.heap.size := hb.lt (by first | with_reducible assumption | omega | (simp; done) | (simp; omega)); have n0 : w3.cell? ⟨w.heap.size, 0, none⟩ = some (.int .i64 e) := (hb.cells _ _ (by first | with_reducible assumption | omega | (simp; done) | (simp; omega))).trans (by first | with_reducible assumption | (simp; done) | (simp; with_reducible assumption) | (rw [cell_alloc_before _ _ _ _ (by omega)]; with_reducible assumption) | (simp [go_sem, *]; done)); have n1 : w3.cell? ⟨w.heap.size, 1, none⟩ = some (.int .i64 f) := (hb.cells _ _ (by first | with_reducible assumption | omega | (simp; done) | (simp; omega))).trans (by first | with_reducible assumption | (simp; done) | (simp; with_reducible assumption) | (rw [cell_alloc_before _ _ _ _ (by omega)]; with_reducible assumption) | (simp [go_sem, *]; done)); (first | (have nx := Ext.trans hx hb; clear hx) | (have nx := Ext.trans (hx.alloc _) hb; clear hx) | (have nx := Ext.trans hx.drew hb; clear hx) | have nx := hb); clear hb; try clear hs; try clear g0; try clear g1; have hx := nx; clear nx; have hs := ns; clear ns; have g0 := n0; clear n0; have g1 := n1; clear n1) | fail))
  all_goals (try go_region)
  all_goals (try go_wp2_with fail)
  all_goals go_ret2
  all_goals exact ⟨r, _, rfl, HR.out, res_bad (Or.inl rfl) (Or.inl (res_bad (Or.inr rfl) (Or.inr HR.out))), (by repeat (first | exact Ext.refl _ | with_reducible assumption | apply Ext.alloc | apply Ext.drew | apply Ext.drewN | (refine Ext.setRow ?_ (by first | (simp; done) | (simp; omega) | omega) _) | (refine Ext.setCell ?_ (by first | (simp; done) | (simp; omega) | omega) _) | (refine Ext.trans ?_ (by with_reducible assumption))))⟩
end Go.Proofs.Ytdagfocpbnamfaa

namespace Go.Proofs.Ytdagfocpbnamfaa
open Go Go.RowKit
set_option linter.unusedSimpArgs false
set_option linter.unusedVariables false
set_option maxRecDepth 100000

/-- The first k patterns. -/
def patL (Q : Nat → Int) (k : Nat) : List Value := (List.range k).map (fun j => .int .i64 (Q j))

theorem patL_succ (Q : Nat → Int) (k : Nat) : patL Q (k + 1) = patL Q k ++ [.int .i64 (Q k)] := by unfold patL; rw [List.range_succ]; simp

set_option maxHeartbeats 3200000 in
theorem patternsOfAll_own (e f : Int) (X : Nat → Nat) (Q : Nat → Int) (n cap : Nat) (p : Option Addr) (hn : n ≤ 1000) (PX : ∀ i, i < n → ∀ w, Calls Try.prog 131 #[fmt e f, .float .f32 (X i)] w fun rv w' => rv = .returned (.tuple #[.int .i64 (Q i), .bool true]) ∧ Ext w w') (w : World) (hp : 0 < n → ∃ gl, p = some ⟨gl, 0, none⟩ ∧ gl < w.heap.size ∧ ∀ i, i < n → w.cell? ⟨gl, i, none⟩ = some (.float .f32 (X i))) :
    Calls Try.prog 67 #[fmt e f, .slice p n cap] w fun rv w' => ∃ v, rv = .returned (.tuple #[v, .bool true]) ∧ w'.ownsRow (w.heap.size + 1) 3 1 v n (patL Q n) ∧ Ext w w' := by
  have HPX := Lib.hid PX; clear PX
  obtain ⟨i, hi, hz, hsz, hby⟩ : ∃ i, Try.prog.info? 3 = some i ∧ i.zero = some (Value.int .i64 0) ∧ i.size = 1 ∧ i.bytes = 8 := by
    cases h : Try.prog.info? 3 with
    | none => exact absurd h (by have : (Try.prog.info? 3).isSome = true := by kernel_rfl
                                 intro h2; rw [h2] at this; cases this)
    | some i =>
      refine ⟨i, rfl, ?_, ?_, ?_⟩
      · have : (Try.prog.info? 3).map (·.zero) = some (some (Value.int .i64 0)) := by kernel_rfl
        rw [h] at this; exact Option.some.inj this
      · have : (Try.prog.info? 3).map (·.size) = some 1 := by kernel_rfl
        rw [h] at this; exact Option.some.inj this
      · have : (Try.prog.info? 3).map (·.bytes) = some 8 := by kernel_rfl
        rw [h] at this; exact Option.some.inj this
  have HI := Lib.hid hi; have HZ := Lib.hid hz; have HSZ := Lib.hid hsz; have HBY := Lib.hid hby; clear hi hz hsz hby
  go_enter Try.func67, Try.ntmps67
  go_wp2_with fail
  have own0 := (World.ownsRow_lit (base := w.heap.size + 1) (e := 3) (size := 1) (w.alloc (.cells #[.int .i64 e, .int .i64 f] 27)) #[] 0 (by simp) (by decide) rfl)
  rw [World.size_alloc] at own0
  have OWN := Lib.hid own0; clear own0
  have k0 : ((w.alloc (.cells #[.int .i64 e, .int .i64 f] 27)).alloc (.cells #[] 3)).cell? ⟨w.heap.size, 0, none⟩ = some (.int .i64 e) := (cell_alloc_before _ _ _ 0 (by simp)).trans (by simp)
  have k1 : ((w.alloc (.cells #[.int .i64 e, .int .i64 f] 27)).alloc (.cells #[] 3)).cell? ⟨w.heap.size, 1, none⟩ = some (.int .i64 f) := (cell_alloc_before _ _ _ 1 (by simp)).trans (by simp [go_sem])
  have hx1 : Ext w ((w.alloc (.cells #[.int .i64 e, .int .i64 f] 27)).alloc (.cells #[] 3)) := (Ext.new _ _).alloc _
  have hz1 : w.heap.size + 1 < ((w.alloc (.cells #[.int .i64 e, .int .i64 f] 27)).alloc (.cells #[] 3)).heap.size := by simp
  go_loopw [6, 14] (fun v x wr => ∃ k : Nat, x = .int .i64 (k : Int) ∧ k ≤ n ∧ wr.ownsRow (w.heap.size + 1) 3 1 v k (patL Q k) ∧ wr.cell? ⟨w.heap.size, 0, none⟩ = some (.int .i64 e) ∧ wr.cell? ⟨w.heap.size, 1, none⟩ = some (.int .i64 f) ∧ Ext w wr ∧ w.heap.size + 1 < wr.heap.size) (fun _ x _ => n - (intOf x).toNat)
  case atStart => exact ⟨0, rfl, by omega, OWN.out, k0, k1, hx1, hz1⟩
  case round =>
    clear OWN k0 k1 hx1 hz1
    obtain ⟨k, rfl, hk, OWN0, g0, g1, hx, hs⟩ := hrel
    have OWN := Lib.hid OWN0; clear OWN0
    by_cases hlt : k < n
    · obtain ⟨gl, rfl, hgl, hcl⟩ := hp (by omega)
      have hlt2 : k < n := hlt
      have h1 : ((k : Nat) : Int) < (n : Int) := by omega
      have h0 : (0 : Int) ≤ (k : Int) := by omega
      have h2 : ((k : Int)).toNat = k := by omega
      have u1 : IntKind.i64.wrap ((k : Int) + 1) = (k : Int) + 1 := IntWalk.i64_in _ (by omega)
      have ga : wr.cell? ⟨gl, k, none⟩ = some (.float .f32 (X k)) := (hx.cells _ _ hgl).trans (hcl k hlt2)
      have PK := Lib.hid (fun w => HPX.out k hlt w)
      generalize X k = xk at *
      generalize hQ : Q k = qk at *
      have HQ := Lib.hid hQ; clear hQ
      go_wp2_with (first | (go_at_call 131; refine (PK.out _).mono ?_; rintro rv w1 ⟨rfl, hb⟩; (first | (have OWN9 := Lib.hid (own_ext OWN.out hb); clear OWN; have OWN := OWN9; clear OWN9) | (have OWN9 := Lib.hid (own_ext (own_ext OWN.out (Ext.new _ _)) hb); clear OWN; have OWN := OWN9; clear OWN9)); have ns : w.heap.size + 1 < w1.heap.size := hb.lt (by first | with_reducible assumption | omega | (simp; done) | (simp; omega)); have n0 : w1.cell? ⟨w.heap.size, 0, none⟩ = some (.int .i64 e) := (hb.cells _ _ (by first | with_reducible assumption | omega | (simp; done) | (simp; omega))).trans (by first | with_reducible assumption | (simp; done) | (simp; with_reducible assumption) | (rw [cell_alloc_before _ _ _ _ (by omega)]; with_reducible assumption) | (simp [go_sem, *]; done)); have n1 : w1.cell? ⟨w.heap.size, 1, none⟩ = some (.int .i64 f) := (hb.cells _ _ (by first | with_reducible assumption | omega | (simp; done) | (simp; omega))).trans (by first | with_reducible assumption | (simp; done) | (simp; with_reducible assumption) | (rw [cell_alloc_before _ _ _ _ (by omega)]; with_reducible assumption) | (simp [go_sem, *]; done)); (first | (have nx := Ext.trans hx hb; clear hx) | (have nx := Ext.trans (hx.alloc _) hb; clear hx) | (have nx := Ext.trans hx.drew hb; clear hx) | have nx := hb); clear hb; try clear hs; try clear g0; try clear g1; have hx := nx; clear nx; have hs := ns; clear ns; have g0 := n0; clear n0; have g1 := n1; clear n1) | (at_builtin; (refine wpList_append_own _ rfl (.tmp 26) (.tmp 28) 24 rfl (w.heap.size + 1) 3 i _ 1 8 Try.underlying24 HI.out HZ.out HSZ.out HBY.out rfl (by decide) _ k (patL Q k) rfl (own_ext OWN.out (Ext.new _ _)) _ 1 1 [.int .i64 qk] rfl rfl (fun j u hj => by cases j with | zero => (simp at hj; subst hj; simp [go_sem, Addr.add]) | succ j => simp at hj) (by simp [Value.oneCell']) (by simp [maxLen]; omega) (by omega) (by simp; omega) ?_); intro v9 w9 OWN8 hgr _; have hne : ∀ k, k < w.heap.size + 1 → some k ≠ Value.ownBlock u6 := fun k hk h => (by have := (World.ownsRow.lt OWN.out _ h.symm).1; omega); have c0 : w9.cell? ⟨w.heap.size, 0, none⟩ = some (.int .i64 e) := hgr.cell ((cell_alloc_before _ _ (w.heap.size) 0 (by omega)).trans (by with_reducible assumption)) (hne (w.heap.size) (by omega)); have c1 : w9.cell? ⟨w.heap.size, 1, none⟩ = some (.int .i64 f) := hgr.cell ((cell_alloc_before _ _ (w.heap.size) 1 (by omega)).trans (by with_reducible assumption)) (hne (w.heap.size) (by omega)); have sz : w1.heap.size + 1 ≤ w9.heap.size := (by have h := hgr.size; rwa [World.size_alloc] at h); have hs9 : w.heap.size + 1 < w9.heap.size := (by omega); have hx9 : Ext w w9 := ext_grown (by repeat (first | exact Ext.refl _ | with_reducible assumption | apply Ext.alloc | apply Ext.drew | apply Ext.drewN | (refine Ext.setRow ?_ (by first | (simp; done) | (simp; omega) | omega) _) | (refine Ext.setCell ?_ (by first | (simp; done) | (simp; omega) | omega) _) | (refine Ext.trans ?_ (by with_reducible assumption)))) hgr (fun k hk => by have := (World.ownsRow.lt OWN.out k hk).1; omega); have OWN7 : RowKit.Hid (w9.ownsRow (w.heap.size + 1) 3 1 v9 (k + 1) (patL Q k ++ [.int .i64 qk])) := OWN8; clear OWN OWN8 hne hgr; have OWN := OWN7; clear OWN7))
      go_roundw
      case rel => exact ⟨k + 1, by simp, by omega, by rw [patL_succ, HQ.out]; exact OWN.out, c0, c1, hx9, hs9⟩
      case measure => simp [intOf]; omega
    · have h1 : ¬ ((k : Nat) : Int) < (n : Int) := by omega
      have hkn : k = n := by omega
      go_wp2_with fail
      go_ret2
      subst hkn
      exact ⟨u6, rfl, OWN.out, hx⟩

set_option maxHeartbeats 3200000 in
theorem patternsOfAll_stop (e f : Int) (X : Nat → Nat) (Q : Nat → Int) (n cap m : Nat) (p : Option Addr) (hn : n ≤ 1000) (hm : m < n) (PX : ∀ i, i < m → ∀ w, Calls Try.prog 131 #[fmt e f, .float .f32 (X i)] w fun rv w' => rv = .returned (.tuple #[.int .i64 (Q i), .bool true]) ∧ Ext w w') (PN : ∀ w, Calls Try.prog 131 #[fmt e f, .float .f32 (X m)] w fun rv w' => rv = .returned (.tuple #[.int .i64 0, .bool false]) ∧ Ext w w') (w : World) (hp : 0 < n → ∃ gl, p = some ⟨gl, 0, none⟩ ∧ gl < w.heap.size ∧ ∀ i, i < n → w.cell? ⟨gl, i, none⟩ = some (.float .f32 (X i))) :
    Calls Try.prog 67 #[fmt e f, .slice p n cap] w fun rv w' => rv = .returned (.tuple #[.slice none 0 0, .bool false]) ∧ Ext w w' := by
  have HPX := Lib.hid PX; clear PX
  have HPN := Lib.hid PN; clear PN
  obtain ⟨i, hi, hz, hsz, hby⟩ : ∃ i, Try.prog.info? 3 = some i ∧ i.zero = some (Value.int .i64 0) ∧ i.size = 1 ∧ i.bytes = 8 := by
    cases h : Try.prog.info? 3 with
    | none => exact absurd h (by have : (Try.prog.info? 3).isSome = true := by kernel_rfl
                                 intro h2; rw [h2] at this; cases this)
    | some i =>
      refine ⟨i, rfl, ?_, ?_, ?_⟩
      · have : (Try.prog.info? 3).map (·.zero) = some (some (Value.int .i64 0)) := by kernel_rfl
        rw [h] at this; exact Option.some.inj this
      · have : (Try.prog.info? 3).map (·.size) = some 1 := by kernel_rfl
        rw [h] at this; exact Option.some.inj this
      · have : (Try.prog.info? 3).map (·.bytes) = some 8 := by kernel_rfl
        rw [h] at this; exact Option.some.inj this
  have HI := Lib.hid hi; have HZ := Lib.hid hz; have HSZ := Lib.hid hsz; have HBY := Lib.hid hby; clear hi hz hsz hby
  go_enter Try.func67, Try.ntmps67
  go_wp2_with fail
  have own0 := (World.ownsRow_lit (base := w.heap.size + 1) (e := 3) (size := 1) (w.alloc (.cells #[.int .i64 e, .int .i64 f] 27)) #[] 0 (by simp) (by decide) rfl)
  rw [World.size_alloc] at own0
  have OWN := Lib.hid own0; clear own0
  have k0 : ((w.alloc (.cells #[.int .i64 e, .int .i64 f] 27)).alloc (.cells #[] 3)).cell? ⟨w.heap.size, 0, none⟩ = some (.int .i64 e) := (cell_alloc_before _ _ _ 0 (by simp)).trans (by simp)
  have k1 : ((w.alloc (.cells #[.int .i64 e, .int .i64 f] 27)).alloc (.cells #[] 3)).cell? ⟨w.heap.size, 1, none⟩ = some (.int .i64 f) := (cell_alloc_before _ _ _ 1 (by simp)).trans (by simp [go_sem])
  have hx1 : Ext w ((w.alloc (.cells #[.int .i64 e, .int .i64 f] 27)).alloc (.cells #[] 3)) := (Ext.new _ _).alloc _
  have hz1 : w.heap.size + 1 < ((w.alloc (.cells #[.int .i64 e, .int .i64 f] 27)).alloc (.cells #[] 3)).heap.size := by simp
  go_loopw [6, 14] (fun v x wr => ∃ k : Nat, x = .int .i64 (k : Int) ∧ k ≤ m ∧ wr.ownsRow (w.heap.size + 1) 3 1 v k (patL Q k) ∧ wr.cell? ⟨w.heap.size, 0, none⟩ = some (.int .i64 e) ∧ wr.cell? ⟨w.heap.size, 1, none⟩ = some (.int .i64 f) ∧ Ext w wr ∧ w.heap.size + 1 < wr.heap.size) (fun _ x _ => n - (intOf x).toNat)
  case atStart => exact ⟨0, rfl, by omega, OWN.out, k0, k1, hx1, hz1⟩
  case round =>
    clear OWN k0 k1 hx1 hz1
    obtain ⟨k, rfl, hk, OWN0, g0, g1, hx, hs⟩ := hrel
    have OWN := Lib.hid OWN0; clear OWN0
    have hlt2 : k < n := by omega
    obtain ⟨gl, rfl, hgl, hcl⟩ := hp (by omega)
    have h1 : ((k : Nat) : Int) < (n : Int) := by omega
    have h0 : (0 : Int) ≤ (k : Int) := by omega
    have h2 : ((k : Int)).toNat = k := by omega
    have u1 : IntKind.i64.wrap ((k : Int) + 1) = (k : Int) + 1 := IntWalk.i64_in _ (by omega)
    have ga : wr.cell? ⟨gl, k, none⟩ = some (.float .f32 (X k)) := (hx.cells _ _ hgl).trans (hcl k hlt2)
    by_cases hlt : k < m
    · have PK := Lib.hid (fun w => HPX.out k hlt w)
      generalize X k = xk at *
      generalize hQ : Q k = qk at *
      have HQ := Lib.hid hQ; clear hQ
      go_wp2_with (first | (go_at_call 131; refine (PK.out _).mono ?_; rintro rv w1 ⟨rfl, hb⟩; (first | (have OWN9 := Lib.hid (own_ext OWN.out hb); clear OWN; have OWN := OWN9; clear OWN9) | (have OWN9 := Lib.hid (own_ext (own_ext OWN.out (Ext.new _ _)) hb); clear OWN; have OWN := OWN9; clear OWN9)); have ns : w.heap.size + 1 < w1.heap.size := hb.lt (by first | with_reducible assumption | omega | (simp; done) | (simp; omega)); have n0 : w1.cell? ⟨w.heap.size, 0, none⟩ = some (.int .i64 e) := (hb.cells _ _ (by first | with_reducible assumption | omega | (simp; done) | (simp; omega))).trans (by first | with_reducible assumption | (simp; done) | (simp; with_reducible assumption) | (rw [cell_alloc_before _ _ _ _ (by omega)]; with_reducible assumption) | (simp [go_sem, *]; done)); have n1 : w1.cell? ⟨w.heap.size, 1, none⟩ = some (.int .i64 f) := (hb.cells _ _ (by first | with_reducible assumption | omega | (simp; done) | (simp; omega))).trans (by first | with_reducible assumption | (simp; done) | (simp; with_reducible assumption) | (rw [cell_alloc_before _ _ _ _ (by omega)]; with_reducible assumption) | (simp [go_sem, *]; done)); (first | (have nx := Ext.trans hx hb; clear hx) | (have nx := Ext.trans (hx.alloc _) hb; clear hx) | (have nx := Ext.trans hx.drew hb; clear hx) | have nx := hb); clear hb; try clear hs; try clear g0; try clear g1; have hx := nx; clear nx; have hs := ns; clear ns; have g0 := n0; clear n0; have g1 := n1; clear n1) | (at_builtin; (refine wpList_append_own _ rfl (.tmp 26) (.tmp 28) 24 rfl (w.heap.size + 1) 3 i _ 1 8 Try.underlying24 HI.out HZ.out HSZ.out HBY.out rfl (by decide) _ k (patL Q k) rfl (own_ext OWN.out (Ext.new _ _)) _ 1 1 [.int .i64 qk] rfl rfl (fun j u hj => by cases j with | zero => (simp at hj; subst hj; simp [go_sem, Addr.add]) | succ j => simp at hj) (by simp [Value.oneCell']) (by simp [maxLen]; omega) (by omega) (by simp; omega) ?_); intro v9 w9 OWN8 hgr _; have hne : ∀ k, k < w.heap.size + 1 → some k ≠ Value.ownBlock u6 := fun k hk h => (by have := (World.ownsRow.lt OWN.out _ h.symm).1; omega); have c0 : w9.cell? ⟨w.heap.size, 0, none⟩ = some (.int .i64 e) := hgr.cell ((cell_alloc_before _ _ (w.heap.size) 0 (by omega)).trans (by with_reducible assumption)) (hne (w.heap.size) (by omega)); have c1 : w9.cell? ⟨w.heap.size, 1, none⟩ = some (.int .i64 f) := hgr.cell ((cell_alloc_before _ _ (w.heap.size) 1 (by omega)).trans (by with_reducible assumption)) (hne (w.heap.size) (by omega)); have sz : w1.heap.size + 1 ≤ w9.heap.size := (by have h := hgr.size; rwa [World.size_alloc] at h); have hs9 : w.heap.size + 1 < w9.heap.size := (by omega); have hx9 : Ext w w9 := ext_grown (by repeat (first | exact Ext.refl _ | with_reducible assumption | apply Ext.alloc | apply Ext.drew | apply Ext.drewN | (refine Ext.setRow ?_ (by first | (simp; done) | (simp; omega) | omega) _) | (refine Ext.setCell ?_ (by first | (simp; done) | (simp; omega) | omega) _) | (refine Ext.trans ?_ (by with_reducible assumption)))) hgr (fun k hk => by have := (World.ownsRow.lt OWN.out k hk).1; omega); have OWN7 : RowKit.Hid (w9.ownsRow (w.heap.size + 1) 3 1 v9 (k + 1) (patL Q k ++ [.int .i64 qk])) := OWN8; clear OWN OWN8 hne hgr; have OWN := OWN7; clear OWN7))
      go_roundw
      case rel => exact ⟨k + 1, by simp, by omega, by rw [patL_succ, HQ.out]; exact OWN.out, c0, c1, hx9, hs9⟩
      case measure => simp [intOf]; omega
    · have hkm : k = m := by omega
      subst hkm
      have PK := HPN
      generalize X k = xk at *
      go_wp2_with (go_at_call 131; refine (PK.out _).mono ?_; rintro rv w1 ⟨rfl, hb⟩; have ns : w.heap.size + 1 < w1.heap.size := hb.lt (by first | with_reducible assumption | omega | (simp; done) | (simp; omega)); have n0 : w1.cell? ⟨w.heap.size, 0, none⟩ = some (.int .i64 e) := (hb.cells _ _ (by first | with_reducible assumption | omega | (simp; done) | (simp; omega))).trans (by first | with_reducible assumption | (simp; done) | (simp; with_reducible assumption) | (rw [cell_alloc_before _ _ _ _ (by omega)]; with_reducible assumption) | (simp [go_sem, *]; done)); have n1 : w1.cell? ⟨w.heap.size, 1, none⟩ = some (.int .i64 f) := (hb.cells _ _ (by first | with_reducible assumption | omega | (simp; done) | (simp; omega))).trans (by first | with_reducible assumption | (simp; done) | (simp; with_reducible assumption) | (rw [cell_alloc_before _ _ _ _ (by omega)]; with_reducible assumption) | (simp [go_sem, *]; done)); (first | (have nx := Ext.trans hx hb; clear hx) | (have nx := Ext.trans (hx.alloc _) hb; clear hx) | (have nx := Ext.trans hx.drew hb; clear hx) | have nx := hb); clear hb; try clear hs; try clear g0; try clear g1; have hx := nx; clear nx; have hs := ns; clear ns; have g0 := n0; clear n0; have g1 := n1; clear n1)
      go_ret2
      exact ⟨rfl, (by repeat (first | exact Ext.refl _ | with_reducible assumption | apply Ext.alloc | apply Ext.drew | apply Ext.drewN | (refine Ext.setRow ?_ (by first | (simp; done) | (simp; omega) | omega) _) | (refine Ext.setCell ?_ (by first | (simp; done) | (simp; omega) | omega) _) | (refine Ext.trans ?_ (by with_reducible assumption))))⟩
end Go.Proofs.Ytdagfocpbnamfaa

namespace Go.Proofs.Ytdagfocpbnamfaa
open Go Go.RowKit
set_option linter.unusedSimpArgs false
set_option linter.unusedVariables false
set_option maxRecDepth 100000

/-- The values of the list lie there. -/
def HPV (e f : Int) (V : Nat → Int) (n : Nat) (p : Option Addr) (w : World) : Prop := 0 < n → ∃ gl, p = some ⟨gl, 0, none⟩ ∧ gl < w.heap.size ∧ ∀ i, i < n → w.cell? ⟨gl, i, none⟩ = some (.float .f32 (floatOfInt .f32 (unitsV e f (V i))))

theorem HPV.ext {e f : Int} {V : Nat → Int} {n : Nat} {p : Option Addr} {w w' : World} (h : HPV e f V n p w) (hx : Ext w w') : HPV e f V n p w' := fun hn => by
  obtain ⟨gl, e1, e2, e3⟩ := h hn
  exact ⟨gl, e1, hx.lt e2, fun i hi => (hx.cells _ _ e2).trans (e3 i hi)⟩
end Go.Proofs.Ytdagfocpbnamfaa

namespace Go.Proofs.Ytdagfocpbnamfaa
open Go Go.RowKit
set_option linter.unusedSimpArgs false
set_option linter.unusedVariables false
set_option maxRecDepth 100000

noncomputable def sb0 (e f a b : Int) : Bool := nsB e f ((unitsV e f a) + (unitsV e f b))

/-- A value with its sign, or that with the other one, or a bad single. -/
def VBY (e f : Int) (y : Nat) : Prop := VBP e f y ∨ ∃ b, finB e f b = true ∧ y = ncw (unitsV e f b)
end Go.Proofs.Ytdagfocpbnamfaa

namespace Go.Proofs.Ytdagfocpbnamfaa
open Go Go.RowKit
set_option linter.unusedSimpArgs false
set_option linter.unusedVariables false
set_option maxRecDepth 100000

/-- The error's pattern has it as its value. -/
theorem er_val {e f a b : Int} (ha : finB e f a = true) (hb2 : finB e f b = true) (hB : nsB e f (unitsV e f a + unitsV e f b) = true) : finB e f (nsV e f (erU e f (unitsV e f a + unitsV e f b))) = true ∧ unitsV e f (nsV e f (erU e f (unitsV e f a + unitsV e f b))) = erU e f (unitsV e f a + unitsV e f b) := by
  have hg := (fin_size ha).1
  obtain ⟨o1, o2⟩ := two_err2 ha hb2 hB
  exact ⟨fin_ns hg o1, by rw [ns_units hg o1, o2]⟩

theorem ne_vb {e f a b : Int} (ha : finB e f a = true) (hb2 : finB e f b = true) : VBP e f (neW e f (unitsV e f a + unitsV e f b)) ∧ (nsB e f (unitsV e f a + unitsV e f b) = false → BadW (neW e f (unitsV e f a + unitsV e f b))) := by
  cases hB : nsB e f (unitsV e f a + unitsV e f b)
  · have : neW e f (unitsV e f a + unitsV e f b) = Ieee.single.word (!(decide (unitsV e f a + unitsV e f b < 0))) Ieee.single.infRung := if_neg (fun h => by rw [hB] at h; cases h)
    rw [this]
    exact ⟨Or.inr (bad_inf _), fun _ => bad_inf _⟩
  · refine ⟨Or.inl ⟨_, (er_val ha hb2 hB).1, ?_⟩, fun h => (by cases h)⟩
    rw [(er_val ha hb2 hB).2]
    exact if_pos hB

theorem vb_val {e f a : Int} (ha : finB e f a = true) : VBP e f (cw (unitsV e f a)) := Or.inl ⟨a, ha, rfl⟩
end Go.Proofs.Ytdagfocpbnamfaa

namespace Go.Proofs.Ytdagfocpbnamfaa
open Go Go.RowKit
set_option linter.unusedSimpArgs false
set_option linter.unusedVariables false
set_option maxRecDepth 100000
open Go.Shelf Go.Lib Go.Sort in

shelf_lay_g SlLaysH.n10 Slgf 10 at Try 133 as Ytdagfocpbnamfaa.lDel

/-- Whether a single is 0 (of either sign). -/
def zeroW (x : Nat) : Bool := FloatKind.f32.format.order x 0 == some Ordering.eq

theorem zero_val {u : Int} (hu : Ok Ieee.single (u.natAbs * 2 ^ 149)) : zeroW (cw u) = decide (u = 0) := by
  have o := ords_cw (a := u) (b := 0) hu ok_zero
  rw [zero_cw] at o
  unfold zeroW
  by_cases h : u = 0
  · rw [o.2.1 h]; simp [h]
  · rcases Int.lt_or_gt_of_ne h with q | q
    · rw [o.1 q]; simp [h]
    · rw [o.2.2 q]; simp [h]

theorem zero_bad {x : Nat} (h : BadW x) : zeroW x = false := by
  unfold zeroW
  show ((Ieee.single.read x).order (Ieee.single.read 0) == some Ordering.eq) = false
  rcases bad_read2 h with ⟨s, q⟩ | ⟨s, t, q⟩
  · rw [q]
    cases s <;> rfl
  · rw [q]
    rfl

open Go.Proofs in
theorem grow1_gives (x : Nat) (W : World) : FnGives Try.prog 134 #[] #[.float .f32 x] (.bool (zeroW x)) W := by
  show Calls Try.prog 134 #[.float .f32 x] W _
  go_enter Try.func134, Try.ntmps134
  go_wp2
  go_ret
  exact ⟨rfl, 0, rfl⟩

/-- A list's singles that are not 0. -/
def keptL (X : List Nat) : List Nat := X.filter (fun x => !zeroW x)

open Go.Proofs Go.Sort Go.Lib in
/-- The singles of a row that are not 0. -/
theorem delete_own (B : Nat) (X : List Nat) (n : Nat) (v : Value) (hl : X.length = n) (hn : 0 < n) (h48 : n ≤ 1048576) (w : World) (h : w.ownsRow B 69 1 v n (X.map (Value.float .f32))) :
    Calls Try.prog 133 #[v, .func (.func 134) #[] #[]] w fun rv w' => ∃ gl c, rv = .returned (.slice (some ⟨gl, 0, none⟩) (keptL X).length c) ∧ B ≤ gl ∧ gl < w'.heap.size ∧ (∀ i x, (keptL X)[i]? = some x → w'.cell? ⟨gl, i, none⟩ = some (.float .f32 x)) ∧ (∀ w0, w0.heap.size ≤ B → Ext w0 w → Ext w0 w') := by
  obtain ⟨g, cap, cur, hv, hb, hgg, hc, hm, hs, ht⟩ : ∃ g cap cur, v = .slice (some ⟨g, 0, none⟩) n cap ∧ B ≤ g ∧ w.heap[g]? = some (.cells cur 69 (0, 0)) ∧ n ≤ cap ∧ cap ≤ maxLen ∧ cur.size = cap * 1 ∧ cur.toList.take (n * 1) = X.map (Value.float .f32) := by
    rcases h.2 with ⟨_, q⟩ | ⟨g, cap, cur, q⟩
    · omega
    · exact ⟨g, cap, cur, q⟩
  subst hv
  have eg : ∀ args w, (callFunc 134 args).run Try.prog w = .ok (.enter 134 args) w := enters_of Try.func134 (by kernel_rfl) rfl
  have hH : Holds (Value.float .f32) w g 0 X.toArray := by
    intro j hj
    have hj2 : j < n := by simpa [hl] using hj
    have e1 := h.cellAt j (by omega)
    refine ⟨?_, ?_⟩
    · rw [Nat.zero_add, e1]
      simp [show j < X.length by omega]
    · rw [Nat.zero_add]; exact h.frozenAt j
  have hgs : g < w.heap.size := (Array.getElem?_eq_some_iff.1 hgg).1
  have hsz : X.toArray.size = n := by simpa using hl
  have hcon := AnyE.slices_DeleteFunc Ytdagfocpbnamfaa.lDel (Value.float .f32) (fun _ => rfl) zeroW 134 #[] eg 0 Try.zeroValue69 g 0 cap X.toArray w (fun W x _ => grow1_gives x W) (fun _ _ _ x _ => grow1_gives x _) hH (by rw [hsz]; omega) (by rw [hsz]; exact hc)
  change Calls Try.prog 133 _ _ _ at hcon
  rw [hsz] at hcon
  refine hcon.mono ?_
  rintro rv w' ⟨rfl, q, rfl⟩
  have hle : (keptL X).length ≤ n := by rw [← hl]; exact List.length_filter_le _ _
  have hk : X.toArray.toList.filter (fun x => !zeroW x) = keptL X := rfl
  rw [hk]
  refine ⟨g, cap, rfl, hb, by simpa using hgs, ?_, ?_⟩
  · intro i x hx
    have hi : i < (keptL X).length := (List.getElem?_eq_some_iff.1 hx).1
    have := cell?_putRow (Value.float .f32) (Sort.ahead w q) g 0 X.toArray (keptL X ++ List.replicate (n - (keptL X).length) 0).toArray (holds_ahead _ w q g 0 _ hH) (by simp; omega) i (by simp; omega)
    rw [Nat.zero_add] at this
    rw [this]
    congr 2
    have e2 : (keptL X ++ List.replicate (n - (keptL X).length) 0).toArray[i]? = some x := by
      rw [List.getElem?_toArray, List.getElem?_append_left hi, hx]
    rw [getElem!_def, e2]
  · intro w0 h0 hx
    refine ⟨hx.os, hx.tape, hx.output, by simpa using hx.size, fun k hk => ?_⟩
    have e3 : (putRow (Value.float .f32) (Sort.ahead w q) g 0 (keptL X ++ List.replicate (n - (keptL X).length) 0).toArray).heap[k]? = w.heap[k]? := by
      have hne : g ≠ k := by omega
      show ((w.heap.modify g _))[k]? = _
      rw [Array.getElem?_modify, if_neg hne]
    rw [e3]
    exact hx.block k hk
end Go.Proofs.Ytdagfocpbnamfaa

namespace Go.Proofs.Ytdagfocpbnamfaa
open Go Go.RowKit
set_option linter.unusedSimpArgs false
set_option linter.unusedVariables false
set_option maxRecDepth 100000

/-- What nearWithError makes of singles: of values, if E says so. -/
def NWR (e f a b : Int) (E : Prop) (x0 x1 s d : Nat) : Prop :=
  VBP e f s ∧ VBP e f d ∧ ((BadW x0 ∨ BadW x1) → BadW s) ∧ (E → (nsB e f (unitsV e f a + unitsV e f b) = true → s = cw (unitsV e f (nsV e f (unitsV e f a + unitsV e f b))) ∧ d = cw (erU e f (unitsV e f a + unitsV e f b))) ∧ (nsB e f (unitsV e f a + unitsV e f b) = false → BadW s))

theorem nwe_all (e f a b : Int) (E : Prop) (x0 x1 : Nat) (hg : goodB e f = true) (h0 : VBP e f x0) (h1 : VBP e f x1) (hE : E → finB e f a = true ∧ finB e f b = true ∧ x0 = cw (unitsV e f a) ∧ x1 = cw (unitsV e f b)) (w : World) :
    Calls Try.prog 132 #[fmt e f, .float .f32 x0, .float .f32 x1] w fun rv w' => ∃ s d, rv = .returned (.tuple #[.float .f32 s, .float .f32 d]) ∧ NWR e f a b E x0 x1 s d ∧ Ext w w' := by
  by_cases hb : BadW x0 ∨ BadW x1
  · refine (nwe_bad e f x0 x1 hg h0 h1 hb w).mono ?_
    rintro rv w' ⟨s, d, rfl, q1, q2, hx⟩
    refine ⟨s, d, rfl, ⟨Or.inr q1, Or.inr q2, fun _ => q1, fun hh => ?_⟩, hx⟩
    obtain ⟨fa, fb, e1, e2⟩ := hE hh
    rw [e1, e2] at hb
    exact absurd hb (fun h => h.elim (good_word fa) (good_word fb))
  · by_cases hh : E
    · obtain ⟨fa, fb, rfl, rfl⟩ := hE hh
      refine (nwe_any e f a b (by rw [fa, fb]; rfl) w).mono ?_
      rintro rv w' ⟨rfl, hx⟩
      refine ⟨_, _, rfl, ⟨(vb_nr hg).1, (ne_vb fa fb).1, fun h => absurd h hb, fun _ => ⟨fun n => ⟨?_, if_pos n⟩, (vb_nr hg).2⟩⟩, hx⟩
      rw [nr_cw hg n, ns_units hg n]
    · obtain ⟨a2, fa, rfl⟩ := h0.resolve_right (fun h => hb (Or.inl h))
      obtain ⟨b2, fb, rfl⟩ := h1.resolve_right (fun h => hb (Or.inr h))
      refine (nwe_any e f a2 b2 (by rw [fa, fb]; rfl) w).mono ?_
      rintro rv w' ⟨rfl, hx⟩
      exact ⟨_, _, rfl, ⟨(vb_nr hg).1, (ne_vb fa fb).1, fun h => absurd h hb, fun h => absurd h hh⟩, hx⟩

/-- The sums of an expansion's growth by b, and whether all fit. -/
noncomputable def grP (e f : Int) (V : Nat → Int) (b : Int) : Nat → Int × Bool
  | 0 => (b, true)
  | k + 1 => (nsV e f (unitsV e f (grP e f V b k).1 + unitsV e f (V k)), (grP e f V b k).2 && nsB e f (unitsV e f (grP e f V b k).1 + unitsV e f (V k)))

noncomputable def grS (e f : Int) (V : Nat → Int) (b : Int) (k : Nat) : Int := (grP e f V b k).1

noncomputable def grB (e f : Int) (V : Nat → Int) (b : Int) (k : Nat) : Bool := (grP e f V b k).2

theorem grB_succ (e f : Int) (V : Nat → Int) (b : Int) (k : Nat) : grB e f V b (k + 1) = (grB e f V b k && nsB e f (unitsV e f (grS e f V b k) + unitsV e f (V k))) := rfl

theorem grS_fin {e f b : Int} {V : Nat → Int} (hg : goodB e f = true) (hb : finB e f b = true) (k : Nat) (h : grB e f V b k = true) : finB e f (grS e f V b k) = true := by
  cases k with
  | zero => exact hb
  | succ k =>
    rw [grB_succ, Bool.and_eq_true] at h
    exact fin_ns hg h.2

/-- The errors of the first k sums. -/
noncomputable def exL (e f : Int) (V : Nat → Int) (b : Int) (k : Nat) : List Nat := (List.range k).map (fun k => cw (erU e f (unitsV e f (grS e f V b k) + unitsV e f (V k))))

theorem exL_succ (e f : Int) (V : Nat → Int) (b : Int) (k : Nat) : exL e f V b (k + 1) = exL e f V b k ++ [cw (erU e f (unitsV e f (grS e f V b k) + unitsV e f (V k)))] := by unfold exL; rw [List.range_succ]; simp

/-- How grow's singles lie to the patterns, if G says that they are such. -/
def GrI (e f : Int) (V : Nat → Int) (b : Int) (G : Prop) (X : Nat → Nat) (y0 k y : Nat) (L : List Nat) : Prop :=
  L.length = k ∧ VBP e f y ∧ (∀ x, x ∈ L → VBP e f x) ∧ ((BadW y0 ∨ BadIn X k) → BadW y) ∧ (G → (grB e f V b k = true → y = cw (unitsV e f (grS e f V b k)) ∧ L = exL e f V b k) ∧ (grB e f V b k = false → BadW y))

theorem gr_start {e f b : Int} {V : Nat → Int} {G : Prop} {X : Nat → Nat} {y0 : Nat} (hy : VBP e f y0) (hG : G → y0 = cw (unitsV e f b)) : GrI e f V b G X y0 0 y0 [] :=
  ⟨rfl, hy, fun x hx => (by cases hx), fun h => h.elim id (fun ⟨i, hi, _⟩ => absurd hi (by omega)), fun g => ⟨fun _ => ⟨hG g, rfl⟩, fun h => (by cases h)⟩⟩

theorem gr_step {e f b : Int} {V : Nat → Int} {G : Prop} {X : Nat → Nat} {y0 k y s d : Nat} {L : List Nat} (h : GrI e f V b G X y0 k y L) (q : NWR e f (grS e f V b k) (V k) (G ∧ grB e f V b k = true) y (X k) s d) : GrI e f V b G X y0 (k + 1) s (L ++ [d]) := by
  obtain ⟨h1, h2, h3, h4, h5⟩ := h
  obtain ⟨q1, q2, q3, q4⟩ := q
  refine ⟨by simp [h1], q1, ?_, ?_, ?_⟩
  · intro x hx
    rcases List.mem_append.1 hx with hx | hx
    · exact h3 x hx
    · rw [List.mem_singleton] at hx; subst hx; exact q2
  · rintro (hb | ⟨i, hi, hb⟩)
    · exact q3 (Or.inl (h4 (Or.inl hb)))
    · by_cases hk : i < k
      · exact q3 (Or.inl (h4 (Or.inr ⟨i, hk, hb⟩)))
      · have : i = k := by omega
        subst this
        exact q3 (Or.inr hb)
  · intro g
    obtain ⟨a1, a2⟩ := h5 g
    cases hB : grB e f V b k
    · have hB2 : grB e f V b (k + 1) = false := by rw [grB_succ, hB]; rfl
      exact ⟨fun p => (by rw [hB2] at p; cases p), fun _ => q3 (Or.inl (a2 hB))⟩
    · obtain ⟨b1, b2⟩ := q4 ⟨g, hB⟩
      have hB2 : grB e f V b (k + 1) = nsB e f (unitsV e f (grS e f V b k) + unitsV e f (V k)) := by rw [grB_succ, hB]; rfl
      rw [hB2]
      refine ⟨fun p => ⟨(b1 p).1, ?_⟩, b2⟩
      rw [exL_succ, (b1 p).2, (a1 hB).2]

/-- What grow hands back. -/
def GrO (e f : Int) (V : Nat → Int) (b : Int) (G : Prop) (X : Nat → Nat) (y0 n : Nat) (L : List Nat) : Prop :=
  L.length ≤ n + 1 ∧ (∀ x, x ∈ L → VBP e f x) ∧ ((BadW y0 ∨ BadIn X n ∨ (G ∧ grB e f V b n = false)) → ∃ x, x ∈ L ∧ BadW x) ∧ (G → grB e f V b n = true → L = keptL (exL e f V b n ++ [cw (unitsV e f (grS e f V b n))]))

theorem gr_out {e f b : Int} {V : Nat → Int} {G : Prop} {X : Nat → Nat} {y0 n y : Nat} {L : List Nat} (h : GrI e f V b G X y0 n y L) : GrO e f V b G X y0 n (keptL (L ++ [y])) := by
  obtain ⟨h1, h2, h3, h4, h5⟩ := h
  refine ⟨?_, ?_, ?_, ?_⟩
  · have := List.length_filter_le (fun x => !zeroW x) (L ++ [y])
    unfold keptL
    simp only [List.length_append, List.length_singleton, h1] at this
    exact this
  · intro x hx
    have hx2 := (List.mem_filter.1 hx).1
    rcases List.mem_append.1 hx2 with hx2 | hx2
    · exact h3 x hx2
    · rw [List.mem_singleton] at hx2; subst hx2; exact h2
  · intro hh
    have hb : BadW y := by
      rcases hh with hh | hh | ⟨g, hh⟩
      · exact h4 (Or.inl hh)
      · exact h4 (Or.inr hh)
      · exact (h5 g).2 hh
    exact ⟨y, List.mem_filter.2 ⟨by simp, by rw [zero_bad hb]; rfl⟩, hb⟩
  · intro g hB
    obtain ⟨e1, e2⟩ := (h5 g).1 hB
    rw [e1, e2]

set_option maxHeartbeats 3200000 in
theorem grow_any (e f : Int) (V : Nat → Int) (b : Int) (G : Prop) (X : Nat → Nat) (y0 n cap : Nat) (p : Option Addr) (hg : goodB e f = true) (hn : n ≤ 1000) (hX : ∀ i, i < n → VBP e f (X i)) (hy : VBP e f y0)
    (hG : G → (∀ i, i < n → finB e f (V i) = true ∧ X i = cw (unitsV e f (V i))) ∧ finB e f b = true ∧ y0 = cw (unitsV e f b)) (w : World)
    (hp : 0 < n → ∃ gl, p = some ⟨gl, 0, none⟩ ∧ gl < w.heap.size ∧ ∀ i, i < n → w.cell? ⟨gl, i, none⟩ = some (.float .f32 (X i))) :
    Calls Try.prog 68 #[fmt e f, .slice p n cap, .float .f32 y0] w fun rv w' => ∃ L gl c, rv = .returned (.slice (some ⟨gl, 0, none⟩) L.length c) ∧ GrO e f V b G X y0 n L ∧ w.heap.size ≤ gl ∧ gl < w'.heap.size ∧ (∀ i x, L[i]? = some x → w'.cell? ⟨gl, i, none⟩ = some (.float .f32 x)) ∧ Ext w w' := by
  have START : RowKit.Hid (GrI e f V b G X y0 0 y0 []) := Lib.hid (gr_start hy (fun g => (hG g).2.2))
  have STEP : RowKit.Hid (∀ k y L, k < n → GrI e f V b G X y0 k y L → ∀ w, Calls Try.prog 132 #[fmt e f, .float .f32 y, .float .f32 (X k)] w fun rv w' => ∃ s d, rv = .returned (.tuple #[.float .f32 s, .float .f32 d]) ∧ GrI e f V b G X y0 (k + 1) s (L ++ [d]) ∧ Ext w w') := Lib.hid (fun k y L hk h w => by
    refine (nwe_all e f (grS e f V b k) (V k) (G ∧ grB e f V b k = true) y (X k) hg h.2.1 (hX k hk) (fun hh => ?_) w).mono ?_
    · obtain ⟨g, hB⟩ := hh
      obtain ⟨g1, g2, g3⟩ := hG g
      exact ⟨grS_fin hg g2 k hB, (g1 k hk).1, ((h.2.2.2.2 g).1 hB).1, (g1 k hk).2⟩
    · rintro rv w' ⟨s, d, rfl, q, hx⟩
      exact ⟨s, d, rfl, gr_step h q, hx⟩)
  clear hG hX hy
  obtain ⟨i, hi, hz, hsz, hby⟩ : ∃ i, Try.prog.info? 69 = some i ∧ i.zero = some (Value.float .f32 0) ∧ i.size = 1 ∧ i.bytes = 4 := by
    cases h : Try.prog.info? 69 with
    | none => exact absurd h (by have : (Try.prog.info? 69).isSome = true := by kernel_rfl
                                 intro h2; rw [h2] at this; cases this)
    | some i =>
      refine ⟨i, rfl, ?_, ?_, ?_⟩
      · have : (Try.prog.info? 69).map (·.zero) = some (some (Value.float .f32 0)) := by kernel_rfl
        rw [h] at this; exact Option.some.inj this
      · have : (Try.prog.info? 69).map (·.size) = some 1 := by kernel_rfl
        rw [h] at this; exact Option.some.inj this
      · have : (Try.prog.info? 69).map (·.bytes) = some 4 := by kernel_rfl
        rw [h] at this; exact Option.some.inj this
  have HI := Lib.hid hi; have HZ := Lib.hid hz; have HSZ := Lib.hid hsz; have HBY := Lib.hid hby; clear hi hz hsz hby
  go_enter Try.func68, Try.ntmps68
  go_wp2_with fail
  have own0 := (World.ownsRow_lit (base := w.heap.size + 1) (e := 69) (size := 1) (w.alloc (.cells #[.int .i64 e, .int .i64 f] 27)) #[] 0 (by simp) (by decide) rfl)
  rw [World.size_alloc] at own0
  have OWN := Lib.hid own0; clear own0
  have k0 : ((w.alloc (.cells #[.int .i64 e, .int .i64 f] 27)).alloc (.cells #[] 69)).cell? ⟨w.heap.size, 0, none⟩ = some (.int .i64 e) := (cell_alloc_before _ _ _ 0 (by simp)).trans (by simp)
  have k1 : ((w.alloc (.cells #[.int .i64 e, .int .i64 f] 27)).alloc (.cells #[] 69)).cell? ⟨w.heap.size, 1, none⟩ = some (.int .i64 f) := (cell_alloc_before _ _ _ 1 (by simp)).trans (by simp [go_sem])
  have hx1 : Ext w ((w.alloc (.cells #[.int .i64 e, .int .i64 f] 27)).alloc (.cells #[] 69)) := (Ext.new _ _).alloc _
  have hz1 : w.heap.size + 1 < ((w.alloc (.cells #[.int .i64 e, .int .i64 f] 27)).alloc (.cells #[] 69)).heap.size := by simp
  go_loopw [2, 7, 15] (fun yv v x wr => ∃ (k y : Nat) (L : List Nat), x = .int .i64 (k : Int) ∧ k ≤ n ∧ yv = .float .f32 y ∧ GrI e f V b G X y0 k y L ∧ wr.ownsRow (w.heap.size + 1) 69 1 v k (L.map (Value.float .f32)) ∧ wr.cell? ⟨w.heap.size, 0, none⟩ = some (.int .i64 e) ∧ wr.cell? ⟨w.heap.size, 1, none⟩ = some (.int .i64 f) ∧ Ext w wr ∧ w.heap.size + 1 < wr.heap.size) (fun _ _ x _ => n - (intOf x).toNat)
  case atStart => exact ⟨0, y0, [], rfl, by omega, rfl, START.out, OWN.out, k0, k1, hx1, hz1⟩
  case round =>
    clear OWN k0 k1 hx1 hz1
    obtain ⟨k, y, L, rfl, hk, rfl, hI, OWN0, g0, g1, hx, hs⟩ := hrel
    have OWN := Lib.hid OWN0; clear OWN0
    by_cases hlt : k < n
    · obtain ⟨gl, rfl, hgl, hcl⟩ := hp (by omega)
      have hlt2 : k < n := hlt
      have h1 : ((k : Nat) : Int) < (n : Int) := by omega
      have h0 : (0 : Int) ≤ (k : Int) := by omega
      have h2 : ((k : Int)).toNat = k := by omega
      have u1 : IntKind.i64.wrap ((k : Int) + 1) = (k : Int) + 1 := IntWalk.i64_in _ (by omega)
      have ga : wr.cell? ⟨gl, k, none⟩ = some (.float .f32 (X k)) := (hx.cells _ _ hgl).trans (hcl k hlt2)
      have NWC := Lib.hid (fun w => STEP.out k y L hlt hI w)
      clear hI
      generalize X k = xk at *
      go_wp2_with (first | (go_at_call 132; refine (NWC.out _).mono ?_; rintro rv w1 ⟨s, d, rfl, hq, hb⟩; (first | (have OWN9 := Lib.hid (own_ext OWN.out hb); clear OWN; have OWN := OWN9; clear OWN9) | (have OWN9 := Lib.hid (own_ext (own_ext OWN.out (Ext.new _ _)) hb); clear OWN; have OWN := OWN9; clear OWN9)); have HM := Lib.hid hq; clear hq; have ns : w.heap.size + 1 < w1.heap.size := hb.lt (by first | with_reducible assumption | omega | (simp; done) | (simp; omega)); have n0 : w1.cell? ⟨w.heap.size, 0, none⟩ = some (.int .i64 e) := (hb.cells _ _ (by first | with_reducible assumption | omega | (simp; done) | (simp; omega))).trans (by first | with_reducible assumption | (simp; done) | (simp; with_reducible assumption) | (rw [cell_alloc_before _ _ _ _ (by omega)]; with_reducible assumption) | (simp [go_sem, *]; done)); have n1 : w1.cell? ⟨w.heap.size, 1, none⟩ = some (.int .i64 f) := (hb.cells _ _ (by first | with_reducible assumption | omega | (simp; done) | (simp; omega))).trans (by first | with_reducible assumption | (simp; done) | (simp; with_reducible assumption) | (rw [cell_alloc_before _ _ _ _ (by omega)]; with_reducible assumption) | (simp [go_sem, *]; done)); (first | (have nx := Ext.trans hx hb; clear hx) | (have nx := Ext.trans (hx.alloc _) hb; clear hx) | (have nx := Ext.trans hx.drew hb; clear hx) | have nx := hb); clear hb; try clear hs; try clear g0; try clear g1; have hx := nx; clear nx; have hs := ns; clear ns; have g0 := n0; clear n0; have g1 := n1; clear n1) | (at_builtin; (refine wpList_append_own _ rfl (.tmp 26) (.tmp 28) 64 rfl (w.heap.size + 1) 69 i _ 1 4 Try.underlying64 HI.out HZ.out HSZ.out HBY.out rfl (by decide) _ k (L.map (Value.float .f32)) rfl (own_ext OWN.out (Ext.new _ _)) _ 1 1 [.float .f32 d] rfl rfl (fun j u hj => by cases j with | zero => (simp at hj; subst hj; simp [go_sem, Addr.add]) | succ j => simp at hj) (by simp [Value.oneCell']) (by simp [maxLen]; omega) (by omega) (by simp; omega) ?_); intro v9 w9 OWN8 hgr _; have hne : ∀ k, k < w.heap.size + 1 → some k ≠ Value.ownBlock u7 := fun k hk h => (by have := (World.ownsRow.lt OWN.out _ h.symm).1; omega); have c0 : w9.cell? ⟨w.heap.size, 0, none⟩ = some (.int .i64 e) := hgr.cell ((cell_alloc_before _ _ (w.heap.size) 0 (by omega)).trans (by with_reducible assumption)) (hne (w.heap.size) (by omega)); have c1 : w9.cell? ⟨w.heap.size, 1, none⟩ = some (.int .i64 f) := hgr.cell ((cell_alloc_before _ _ (w.heap.size) 1 (by omega)).trans (by with_reducible assumption)) (hne (w.heap.size) (by omega)); have sz : w1.heap.size + 1 ≤ w9.heap.size := (by have h := hgr.size; rwa [World.size_alloc] at h); have hs9 : w.heap.size + 1 < w9.heap.size := (by omega); have hx9 : Ext w w9 := ext_grown (by repeat (first | exact Ext.refl _ | with_reducible assumption | apply Ext.alloc | apply Ext.drew | apply Ext.drewN | (refine Ext.setRow ?_ (by first | (simp; done) | (simp; omega) | omega) _) | (refine Ext.setCell ?_ (by first | (simp; done) | (simp; omega) | omega) _) | (refine Ext.trans ?_ (by with_reducible assumption)))) hgr (fun k hk => by have := (World.ownsRow.lt OWN.out k hk).1; omega); have OWN7 : RowKit.Hid (w9.ownsRow (w.heap.size + 1) 69 1 v9 (k + 1) ((L.map (Value.float .f32)) ++ [.float .f32 d])) := OWN8; clear OWN OWN8 hne hgr; have OWN := OWN7; clear OWN7))
      go_roundw
      case rel => exact ⟨k + 1, s, L ++ [d], by simp, by omega, rfl, HM.out, by rw [List.map_append]; exact OWN.out, c0, c1, hx9, hs9⟩
      case measure => simp [intOf]; omega
    · have h1 : ¬ ((k : Nat) : Int) < (n : Int) := by omega
      have hkn : k = n := by omega
      subst hkn
      have hLn : L.length = k := hI.1
      have HI2 := Lib.hid (gr_out hI)
      clear hI
      go_wp2_with (first | (at_builtin; (refine wpList_append_own _ rfl (.tmp 32) (.tmp 34) 64 rfl (w.heap.size + 1) 69 i _ 1 4 Try.underlying64 HI.out HZ.out HSZ.out HBY.out rfl (by decide) _ k (L.map (Value.float .f32)) rfl (own_ext OWN.out (Ext.new _ _)) _ 1 1 [.float .f32 y] rfl rfl (fun j u hj => by cases j with | zero => (simp at hj; subst hj; simp [go_sem, Addr.add]) | succ j => simp at hj) (by simp [Value.oneCell']) (by simp [maxLen]; omega) (by omega) (by simp; omega) ?_); intro v9 w7 OWN8 hgr _; have hne : ∀ k, k < w.heap.size + 1 → some k ≠ Value.ownBlock u7 := fun k hk h => (by have := (World.ownsRow.lt OWN.out _ h.symm).1; omega); have c0 : w7.cell? ⟨w.heap.size, 0, none⟩ = some (.int .i64 e) := hgr.cell ((cell_alloc_before _ _ (w.heap.size) 0 (by omega)).trans (by with_reducible assumption)) (hne (w.heap.size) (by omega)); have c1 : w7.cell? ⟨w.heap.size, 1, none⟩ = some (.int .i64 f) := hgr.cell ((cell_alloc_before _ _ (w.heap.size) 1 (by omega)).trans (by with_reducible assumption)) (hne (w.heap.size) (by omega)); have sz : wr.heap.size + 1 ≤ w7.heap.size := (by have h := hgr.size; rwa [World.size_alloc] at h); have hs9 : w.heap.size + 1 < w7.heap.size := (by omega); have hx9 : Ext w w7 := ext_grown (by repeat (first | exact Ext.refl _ | with_reducible assumption | apply Ext.alloc | apply Ext.drew | apply Ext.drewN | (refine Ext.setRow ?_ (by first | (simp; done) | (simp; omega) | omega) _) | (refine Ext.setCell ?_ (by first | (simp; done) | (simp; omega) | omega) _) | (refine Ext.trans ?_ (by with_reducible assumption)))) hgr (fun k hk => by have := (World.ownsRow.lt OWN.out k hk).1; omega); have OWN7 : RowKit.Hid (w7.ownsRow (w.heap.size + 1) 69 1 v9 (k + 1) ((L.map (Value.float .f32)) ++ [.float .f32 y])) := OWN8; clear OWN OWN8 hne hgr; have OWN := OWN7; clear OWN7) | (go_at_call 133; refine (delete_own (w.heap.size + 1) (L ++ [y]) (k + 1) _ (by simp [hLn]) (by omega) (by omega) _ (by rw [List.map_append]; exact OWN.out)).mono ?_; rintro rv w8 ⟨gl, c, rfl, hb1, hb2, hb3, hb4⟩; have HD1 := Lib.hid hb1; have HD2 := Lib.hid hb2; have HD3 := Lib.hid hb3; have HD4 := Lib.hid (hb4 w (by omega) hx9); clear hb1 hb2 hb3 hb4))
      go_ret
      exact ⟨keptL (L ++ [y]), gl, c, rfl, HI2.out, by have := HD1.out; omega, HD2.out, HD3.out, HD4.out⟩
end Go.Proofs.Ytdagfocpbnamfaa

namespace Go.Proofs.Ytdagfocpbnamfaa
open Go Go.RowKit
set_option linter.unusedSimpArgs false
set_option linter.unusedVariables false
set_option maxRecDepth 100000

/-- The pattern of the error of the k-th sum. -/
noncomputable def erP (e f : Int) (V : Nat → Int) (b : Int) (k : Nat) : Int := nsV e f (erU e f (unitsV e f (grS e f V b k) + unitsV e f (V k)))

/-- The errors of the first k sums that are not 0. -/
noncomputable def gL (e f : Int) (V : Nat → Int) (b : Int) (k : Nat) : List Int := ((List.range k).map (erP e f V b)).filter (fun x => !(x == 0))

/-- The last sum, and all. -/
noncomputable def gT (e f : Int) (V : Nat → Int) (b : Int) (n : Nat) : Int := ezV e f (grS e f V b n)

noncomputable def gO (e f : Int) (V : Nat → Int) (b : Int) (n : Nat) : List Int := gL e f V b n ++ (if gT e f V b n = 0 then [] else [gT e f V b n])

theorem gL_nil {e f b : Int} {V : Nat → Int} {k : Nat} (h : erP e f V b k = 0) : gL e f V b (k + 1) = gL e f V b k := by
  unfold gL; rw [List.range_succ, List.map_append, List.filter_append]; simp [h]

theorem gL_cons {e f b : Int} {V : Nat → Int} {k : Nat} (h : ¬ erP e f V b k = 0) : gL e f V b (k + 1) = gL e f V b k ++ [erP e f V b k] := by
  unfold gL; rw [List.range_succ, List.map_append, List.filter_append]; simp [h]

theorem gL_len (e f b : Int) (V : Nat → Int) (k : Nat) : (gL e f V b k).length ≤ k := by
  unfold gL
  refine Nat.le_trans (List.length_filter_le _ _) ?_
  simp

theorem grB_mono {e f b : Int} {V : Nat → Int} {k n : Nat} (h : k ≤ n) (hb : grB e f V b k = false) : grB e f V b n = false := by
  induction n with
  | zero =>
    have : k = 0 := by omega
    subst this; exact hb
  | succ n ih =>
    by_cases e1 : k = n + 1
    · subst e1; exact hb
    · rw [grB_succ, ih (by omega)]; rfl

/-- What exGrow hands back. -/
def EGO (e f : Int) (V : Nat → Int) (b : Int) (n : Nat) (w : World) (rv : Ending) (w' : World) : Prop :=
  (grB e f V b n = true → ∃ v, rv = .returned (.tuple #[v, .bool true]) ∧ w'.ownsRow (w.heap.size + 1) 3 1 v (gO e f V b n).length ((gO e f V b n).map (Value.int .i64)) ∧ Ext w w') ∧
  (grB e f V b n = false → rv = .returned (.tuple #[.slice none 0 0, .bool false]) ∧ Ext w w')

set_option maxHeartbeats 3200000 in
theorem exGrow_any (e f : Int) (V : Nat → Int) (b : Int) (n cap : Nat) (p : Option Addr) (hg : goodB e f = true) (hn : n ≤ 1000) (hV : ∀ i, i < n → finB e f (V i) = true) (hb2 : finB e f b = true) (w : World)
    (hp : 0 < n → ∃ gl, p = some ⟨gl, 0, none⟩ ∧ gl < w.heap.size ∧ ∀ i, i < n → w.cell? ⟨gl, i, none⟩ = some (.int .i64 (V i))) :
    Calls Try.prog 65 #[fmt e f, .slice p n cap, .int .i64 b] w (EGO e f V b n w) := by
  obtain ⟨i, hi, hz, hsz, hby⟩ : ∃ i, Try.prog.info? 3 = some i ∧ i.zero = some (Value.int .i64 0) ∧ i.size = 1 ∧ i.bytes = 8 := by
    cases h : Try.prog.info? 3 with
    | none => exact absurd h (by have : (Try.prog.info? 3).isSome = true := by kernel_rfl
                                 intro h2; rw [h2] at this; cases this)
    | some i =>
      refine ⟨i, rfl, ?_, ?_, ?_⟩
      · have : (Try.prog.info? 3).map (·.zero) = some (some (Value.int .i64 0)) := by kernel_rfl
        rw [h] at this; exact Option.some.inj this
      · have : (Try.prog.info? 3).map (·.size) = some 1 := by kernel_rfl
        rw [h] at this; exact Option.some.inj this
      · have : (Try.prog.info? 3).map (·.bytes) = some 8 := by kernel_rfl
        rw [h] at this; exact Option.some.inj this
  have HI := Lib.hid hi; have HZ := Lib.hid hz; have HSZ := Lib.hid hsz; have HBY := Lib.hid hby; clear hi hz hsz hby
  go_enter Try.func65, Try.ntmps65
  go_wp2_with fail
  have own0 : ((w.alloc (.cells #[.int .i64 e, .int .i64 f] 27))).ownsRow (w.heap.size + 1) 3 1 (.slice none 0 0) 0 [] := World.ownsRow_nil _ _ _ _
  have OWN := Lib.hid own0; clear own0
  go_loopw [2, 8, 16] (fun yv v x wr => ∃ (k : Nat) (l : List Int), x = .int .i64 (k : Int) ∧ k ≤ n ∧ grB e f V b k = true ∧ yv = .int .i64 (grS e f V b k) ∧ l = gL e f V b k ∧ wr.ownsRow (w.heap.size + 1) 3 1 v l.length (l.map (Value.int .i64)) ∧ wr.cell? ⟨w.heap.size, 0, none⟩ = some (.int .i64 e) ∧ wr.cell? ⟨w.heap.size, 1, none⟩ = some (.int .i64 f) ∧ Ext w wr ∧ w.heap.size < wr.heap.size) (fun _ _ x _ => n - (intOf x).toNat)
  case atStart => exact ⟨0, [], rfl, by omega, rfl, rfl, rfl, OWN.out, by simp, by simp [go_sem], Ext.new _ _, by simp⟩
  case round =>
    clear OWN
    obtain ⟨k, l, rfl, hk, hB, rfl, hl, OWN0, g0, g1, hx, hs⟩ := hrel
    have OWN := Lib.hid OWN0; clear OWN0
    have hlk : l.length ≤ k := by rw [hl]; exact gL_len _ _ _ _ _
    have HL := Lib.hid hl; clear hl
    have hfk := grS_fin hg hb2 k hB
    by_cases hlt : k < n
    · obtain ⟨gl, rfl, hgl, hcl⟩ := hp (by omega)
      have hlt2 : k < n := hlt
      have h1 : ((k : Nat) : Int) < (n : Int) := by omega
      have h0 : (0 : Int) ≤ (k : Int) := by omega
      have h2 : ((k : Int)).toNat = k := by omega
      have u1 : IntKind.i64.wrap ((k : Int) + 1) = (k : Int) + 1 := IntWalk.i64_in _ (by omega)
      have ga : wr.cell? ⟨gl, k, none⟩ = some (.int .i64 (V k)) := (hx.cells _ _ hgl).trans (hcl k hlt2)
      have both : (finB e f (grS e f V b k) && finB e f (V k)) = true := by rw [hfk, hV k hlt]; rfl
      have ETC := Lib.hid (fun w => exTwo_any e f (grS e f V b k) (V k) both w)
      clear both hfk
      cases hU : nsB e f (unitsV e f (grS e f V b k) + unitsV e f (V k))
      · have HN := Lib.hid (grB_mono (k := k + 1) (n := n) (by omega) (by rw [grB_succ, hU, hB]; rfl))
        rw [hU] at ETC
        clear hU hB
        generalize nsR e f (unitsV e f (grS e f V b k) + unitsV e f (V k)) = r1 at *
        generalize erR e f (unitsV e f (grS e f V b k) + unitsV e f (V k)) = r2 at *
        go_wp2_with (go_at_call 129; refine (ETC.out _).mono ?_; rintro rv w1 ⟨rfl, hb⟩; (first | (have OWN9 := Lib.hid (own_ext OWN.out hb); clear OWN; have OWN := OWN9; clear OWN9) | (have OWN9 := Lib.hid (own_ext (own_ext OWN.out (Ext.new _ _)) hb); clear OWN; have OWN := OWN9; clear OWN9)); have ns : w.heap.size < w1.heap.size := hb.lt (by first | with_reducible assumption | omega | (simp; done) | (simp; omega)); have n0 : w1.cell? ⟨w.heap.size, 0, none⟩ = some (.int .i64 e) := (hb.cells _ _ (by first | with_reducible assumption | omega | (simp; done) | (simp; omega))).trans (by first | with_reducible assumption | (simp; done) | (simp; with_reducible assumption) | (rw [cell_alloc_before _ _ _ _ (by omega)]; with_reducible assumption) | (simp [go_sem, *]; done)); have n1 : w1.cell? ⟨w.heap.size, 1, none⟩ = some (.int .i64 f) := (hb.cells _ _ (by first | with_reducible assumption | omega | (simp; done) | (simp; omega))).trans (by first | with_reducible assumption | (simp; done) | (simp; with_reducible assumption) | (rw [cell_alloc_before _ _ _ _ (by omega)]; with_reducible assumption) | (simp [go_sem, *]; done)); (first | (have nx := Ext.trans hx hb; clear hx) | (have nx := Ext.trans (hx.alloc _) hb; clear hx) | (have nx := Ext.trans hx.drew hb; clear hx) | have nx := hb); clear hb; try clear hs; try clear g0; try clear g1; have hx := nx; clear nx; have hs := ns; clear ns; have g0 := n0; clear n0; have g1 := n1; clear n1)
        go_ret2
        exact ⟨fun h => absurd h (by rw [HN.out]; decide), fun _ => ⟨rfl, (by repeat (first | exact Ext.refl _ | with_reducible assumption | apply Ext.alloc | apply Ext.drew | apply Ext.drewN | (refine Ext.setRow ?_ (by first | (simp; done) | (simp; omega) | omega) _) | (refine Ext.setCell ?_ (by first | (simp; done) | (simp; omega) | omega) _) | (refine Ext.trans ?_ (by with_reducible assumption))))⟩⟩
      · have e1 : nsR e f (unitsV e f (grS e f V b k) + unitsV e f (V k)) = grS e f V b (k + 1) := if_pos hU
        have e2 : erR e f (unitsV e f (grS e f V b k) + unitsV e f (V k)) = erP e f V b k := if_pos hU
        rw [hU, e1, e2] at ETC
        have HB := Lib.hid (show grB e f V b (k + 1) = true by rw [grB_succ, hU, hB]; rfl)
        clear e1 e2 hU hB
        by_cases hz0 : erP e f V b k = 0
        · have HL2 := Lib.hid (HL.out.trans (gL_nil hz0).symm)
          rw [hz0] at ETC
          clear hz0 HL
          generalize hq : grS e f V b (k + 1) = r1 at *
          have HQ := Lib.hid hq; clear hq
          go_wp2_with (go_at_call 129; refine (ETC.out _).mono ?_; rintro rv w1 ⟨rfl, hb⟩; (first | (have OWN9 := Lib.hid (own_ext OWN.out hb); clear OWN; have OWN := OWN9; clear OWN9) | (have OWN9 := Lib.hid (own_ext (own_ext OWN.out (Ext.new _ _)) hb); clear OWN; have OWN := OWN9; clear OWN9)); have ns : w.heap.size < w1.heap.size := hb.lt (by first | with_reducible assumption | omega | (simp; done) | (simp; omega)); have n0 : w1.cell? ⟨w.heap.size, 0, none⟩ = some (.int .i64 e) := (hb.cells _ _ (by first | with_reducible assumption | omega | (simp; done) | (simp; omega))).trans (by first | with_reducible assumption | (simp; done) | (simp; with_reducible assumption) | (rw [cell_alloc_before _ _ _ _ (by omega)]; with_reducible assumption) | (simp [go_sem, *]; done)); have n1 : w1.cell? ⟨w.heap.size, 1, none⟩ = some (.int .i64 f) := (hb.cells _ _ (by first | with_reducible assumption | omega | (simp; done) | (simp; omega))).trans (by first | with_reducible assumption | (simp; done) | (simp; with_reducible assumption) | (rw [cell_alloc_before _ _ _ _ (by omega)]; with_reducible assumption) | (simp [go_sem, *]; done)); (first | (have nx := Ext.trans hx hb; clear hx) | (have nx := Ext.trans (hx.alloc _) hb; clear hx) | (have nx := Ext.trans hx.drew hb; clear hx) | have nx := hb); clear hb; try clear hs; try clear g0; try clear g1; have hx := nx; clear nx; have hs := ns; clear ns; have g0 := n0; clear n0; have g1 := n1; clear n1)
          go_roundw
          case rel => exact ⟨k + 1, l, by simp, by omega, HB.out, by rw [HQ.out], HL2.out, OWN.out, by with_reducible assumption, by with_reducible assumption, by with_reducible assumption, by with_reducible assumption⟩
          case measure => simp [intOf]; omega
        · have HL2 : RowKit.Hid (l ++ [erP e f V b k] = gL e f V b (k + 1)) := Lib.hid (by rw [gL_cons hz0, HL.out])
          clear HL
          have hz1 : (erP e f V b k == 0) = false := by simpa using hz0
          generalize hq : grS e f V b (k + 1) = r1 at *
          have HQ := Lib.hid hq; clear hq
          generalize erP e f V b k = r2 at *
          go_wp2_with (first | (go_at_call 129; refine (ETC.out _).mono ?_; rintro rv w1 ⟨rfl, hb⟩; (first | (have OWN9 := Lib.hid (own_ext OWN.out hb); clear OWN; have OWN := OWN9; clear OWN9) | (have OWN9 := Lib.hid (own_ext (own_ext OWN.out (Ext.new _ _)) hb); clear OWN; have OWN := OWN9; clear OWN9)); have ns : w.heap.size < w1.heap.size := hb.lt (by first | with_reducible assumption | omega | (simp; done) | (simp; omega)); have n0 : w1.cell? ⟨w.heap.size, 0, none⟩ = some (.int .i64 e) := (hb.cells _ _ (by first | with_reducible assumption | omega | (simp; done) | (simp; omega))).trans (by first | with_reducible assumption | (simp; done) | (simp; with_reducible assumption) | (rw [cell_alloc_before _ _ _ _ (by omega)]; with_reducible assumption) | (simp [go_sem, *]; done)); have n1 : w1.cell? ⟨w.heap.size, 1, none⟩ = some (.int .i64 f) := (hb.cells _ _ (by first | with_reducible assumption | omega | (simp; done) | (simp; omega))).trans (by first | with_reducible assumption | (simp; done) | (simp; with_reducible assumption) | (rw [cell_alloc_before _ _ _ _ (by omega)]; with_reducible assumption) | (simp [go_sem, *]; done)); (first | (have nx := Ext.trans hx hb; clear hx) | (have nx := Ext.trans (hx.alloc _) hb; clear hx) | (have nx := Ext.trans hx.drew hb; clear hx) | have nx := hb); clear hb; try clear hs; try clear g0; try clear g1; have hx := nx; clear nx; have hs := ns; clear ns; have g0 := n0; clear n0; have g1 := n1; clear n1) | (at_builtin; (refine wpList_append_own _ rfl (.tmp 32) (.tmp 34) 24 rfl (w.heap.size + 1) 3 i _ 1 8 Try.underlying24 HI.out HZ.out HSZ.out HBY.out rfl (by decide) _ l.length (l.map (Value.int .i64)) rfl (own_ext OWN.out (Ext.new _ _)) _ 1 1 [.int .i64 r2] rfl rfl (fun j u hj => by cases j with | zero => (simp at hj; subst hj; simp [go_sem, Addr.add]) | succ j => simp at hj) (by simp [Value.oneCell']) (by simp [maxLen]; omega) (by omega) (by simp; omega) ?_); intro v9 w9 OWN8 hgr _; have hne : ∀ k, k < w.heap.size + 1 → some k ≠ Value.ownBlock u8 := fun k hk h => (by have := (World.ownsRow.lt OWN.out _ h.symm).1; omega); have c0 : w9.cell? ⟨w.heap.size, 0, none⟩ = some (.int .i64 e) := hgr.cell ((cell_alloc_before _ _ (w.heap.size) 0 (by omega)).trans (by with_reducible assumption)) (hne (w.heap.size) (by omega)); have c1 : w9.cell? ⟨w.heap.size, 1, none⟩ = some (.int .i64 f) := hgr.cell ((cell_alloc_before _ _ (w.heap.size) 1 (by omega)).trans (by with_reducible assumption)) (hne (w.heap.size) (by omega)); have sz : w1.heap.size + 1 ≤ w9.heap.size := (by have h := hgr.size; rwa [World.size_alloc] at h); have hs9 : w.heap.size < w9.heap.size := (by omega); have hx9 : Ext w w9 := ext_grown (by repeat (first | exact Ext.refl _ | with_reducible assumption | apply Ext.alloc | apply Ext.drew | apply Ext.drewN | (refine Ext.setRow ?_ (by first | (simp; done) | (simp; omega) | omega) _) | (refine Ext.setCell ?_ (by first | (simp; done) | (simp; omega) | omega) _) | (refine Ext.trans ?_ (by with_reducible assumption)))) hgr (fun k hk => by have := (World.ownsRow.lt OWN.out k hk).1; omega); have OWN7 : RowKit.Hid (w9.ownsRow (w.heap.size + 1) 3 1 v9 (l.length + 1) ((l.map (Value.int .i64)) ++ [.int .i64 r2])) := OWN8; clear OWN OWN8 hne hgr; have OWN := OWN7; clear OWN7))
          go_roundw
          case rel => exact ⟨k + 1, l ++ [r2], by simp, by omega, HB.out, by rw [HQ.out], HL2.out, by rw [List.map_append, List.length_append]; exact OWN.out, c0, c1, hx9, hs9⟩
          case measure => simp [intOf]; omega
    · have h1 : ¬ ((k : Nat) : Int) < (n : Int) := by omega
      have hkn : k = n := by omega
      subst hkn
      have hp0 : 0 ≤ grS e f V b k := (pat_iff.1 (fin_pat hfk).1).2.1
      have EZC : RowKit.Hid (∀ w, Calls Try.prog 130 #[fmt e f, .int .i64 (grS e f V b k)] w fun rv w' => rv = .returned (.int .i64 (gT e f V b k)) ∧ Ext w w') := Lib.hid (fun w => exZero_any e f _ hg hp0 w)
      have HB := Lib.hid hB
      clear hfk hp0 hB
      by_cases hz0 : gT e f V b k = 0
      · have HO : RowKit.Hid (gO e f V b k = l) := Lib.hid (by unfold gO; rw [if_pos hz0, List.append_nil, HL.out])
        rw [hz0] at EZC
        clear hz0 HL
        generalize grS e f V b k = r1 at *
        go_wp2_with (go_at_call 130; refine (EZC.out _).mono ?_; rintro rv w1 ⟨rfl, hb⟩; (first | (have OWN9 := Lib.hid (own_ext OWN.out hb); clear OWN; have OWN := OWN9; clear OWN9) | (have OWN9 := Lib.hid (own_ext (own_ext OWN.out (Ext.new _ _)) hb); clear OWN; have OWN := OWN9; clear OWN9)); have ns : w.heap.size < w1.heap.size := hb.lt (by first | with_reducible assumption | omega | (simp; done) | (simp; omega)); have n0 : w1.cell? ⟨w.heap.size, 0, none⟩ = some (.int .i64 e) := (hb.cells _ _ (by first | with_reducible assumption | omega | (simp; done) | (simp; omega))).trans (by first | with_reducible assumption | (simp; done) | (simp; with_reducible assumption) | (rw [cell_alloc_before _ _ _ _ (by omega)]; with_reducible assumption) | (simp [go_sem, *]; done)); have n1 : w1.cell? ⟨w.heap.size, 1, none⟩ = some (.int .i64 f) := (hb.cells _ _ (by first | with_reducible assumption | omega | (simp; done) | (simp; omega))).trans (by first | with_reducible assumption | (simp; done) | (simp; with_reducible assumption) | (rw [cell_alloc_before _ _ _ _ (by omega)]; with_reducible assumption) | (simp [go_sem, *]; done)); (first | (have nx := Ext.trans hx hb; clear hx) | (have nx := Ext.trans (hx.alloc _) hb; clear hx) | (have nx := Ext.trans hx.drew hb; clear hx) | have nx := hb); clear hb; try clear hs; try clear g0; try clear g1; have hx := nx; clear nx; have hs := ns; clear ns; have g0 := n0; clear n0; have g1 := n1; clear n1)
        go_ret2
        exact ⟨fun _ => ⟨_, rfl, by rw [HO.out]; exact OWN.out, (by repeat (first | exact Ext.refl _ | with_reducible assumption | apply Ext.alloc | apply Ext.drew | apply Ext.drewN | (refine Ext.setRow ?_ (by first | (simp; done) | (simp; omega) | omega) _) | (refine Ext.setCell ?_ (by first | (simp; done) | (simp; omega) | omega) _) | (refine Ext.trans ?_ (by with_reducible assumption))))⟩, fun h => absurd h (by rw [HB.out]; decide)⟩
      · have HO : RowKit.Hid (gO e f V b k = l ++ [gT e f V b k]) := Lib.hid (by unfold gO; rw [if_neg hz0, HL.out])
        have hz1 : (gT e f V b k == 0) = false := by simpa using hz0
        clear HL
        generalize grS e f V b k = r1 at *
        generalize gT e f V b k = r2 at *
        go_wp2_with (first | (go_at_call 130; refine (EZC.out _).mono ?_; rintro rv w1 ⟨rfl, hb⟩; (first | (have OWN9 := Lib.hid (own_ext OWN.out hb); clear OWN; have OWN := OWN9; clear OWN9) | (have OWN9 := Lib.hid (own_ext (own_ext OWN.out (Ext.new _ _)) hb); clear OWN; have OWN := OWN9; clear OWN9)); have ns : w.heap.size < w1.heap.size := hb.lt (by first | with_reducible assumption | omega | (simp; done) | (simp; omega)); have n0 : w1.cell? ⟨w.heap.size, 0, none⟩ = some (.int .i64 e) := (hb.cells _ _ (by first | with_reducible assumption | omega | (simp; done) | (simp; omega))).trans (by first | with_reducible assumption | (simp; done) | (simp; with_reducible assumption) | (rw [cell_alloc_before _ _ _ _ (by omega)]; with_reducible assumption) | (simp [go_sem, *]; done)); have n1 : w1.cell? ⟨w.heap.size, 1, none⟩ = some (.int .i64 f) := (hb.cells _ _ (by first | with_reducible assumption | omega | (simp; done) | (simp; omega))).trans (by first | with_reducible assumption | (simp; done) | (simp; with_reducible assumption) | (rw [cell_alloc_before _ _ _ _ (by omega)]; with_reducible assumption) | (simp [go_sem, *]; done)); (first | (have nx := Ext.trans hx hb; clear hx) | (have nx := Ext.trans (hx.alloc _) hb; clear hx) | (have nx := Ext.trans hx.drew hb; clear hx) | have nx := hb); clear hb; try clear hs; try clear g0; try clear g1; have hx := nx; clear nx; have hs := ns; clear ns; have g0 := n0; clear n0; have g1 := n1; clear n1) | (at_builtin; (refine wpList_append_own _ rfl (.tmp 43) (.tmp 45) 24 rfl (w.heap.size + 1) 3 i _ 1 8 Try.underlying24 HI.out HZ.out HSZ.out HBY.out rfl (by decide) _ l.length (l.map (Value.int .i64)) rfl (own_ext OWN.out (Ext.new _ _)) _ 1 1 [.int .i64 r2] rfl rfl (fun j u hj => by cases j with | zero => (simp at hj; subst hj; simp [go_sem, Addr.add]) | succ j => simp at hj) (by simp [Value.oneCell']) (by simp [maxLen]; omega) (by omega) (by simp; omega) ?_); intro v9 w9 OWN8 hgr _; have hne : ∀ k, k < w.heap.size + 1 → some k ≠ Value.ownBlock u8 := fun k hk h => (by have := (World.ownsRow.lt OWN.out _ h.symm).1; omega); have c0 : w9.cell? ⟨w.heap.size, 0, none⟩ = some (.int .i64 e) := hgr.cell ((cell_alloc_before _ _ (w.heap.size) 0 (by omega)).trans (by with_reducible assumption)) (hne (w.heap.size) (by omega)); have c1 : w9.cell? ⟨w.heap.size, 1, none⟩ = some (.int .i64 f) := hgr.cell ((cell_alloc_before _ _ (w.heap.size) 1 (by omega)).trans (by with_reducible assumption)) (hne (w.heap.size) (by omega)); have sz : w1.heap.size + 1 ≤ w9.heap.size := (by have h := hgr.size; rwa [World.size_alloc] at h); have hs9 : w.heap.size < w9.heap.size := (by omega); have hx9 : Ext w w9 := ext_grown (by repeat (first | exact Ext.refl _ | with_reducible assumption | apply Ext.alloc | apply Ext.drew | apply Ext.drewN | (refine Ext.setRow ?_ (by first | (simp; done) | (simp; omega) | omega) _) | (refine Ext.setCell ?_ (by first | (simp; done) | (simp; omega) | omega) _) | (refine Ext.trans ?_ (by with_reducible assumption)))) hgr (fun k hk => by have := (World.ownsRow.lt OWN.out k hk).1; omega); have OWN7 : RowKit.Hid (w9.ownsRow (w.heap.size + 1) 3 1 v9 (l.length + 1) ((l.map (Value.int .i64)) ++ [.int .i64 r2])) := OWN8; clear OWN OWN8 hne hgr; have OWN := OWN7; clear OWN7))
        go_ret2
        exact ⟨fun _ => ⟨_, rfl, by rw [HO.out, List.map_append, List.length_append]; exact OWN.out, hx9⟩, fun h => absurd h (by rw [HB.out]; decide)⟩
end Go.Proofs.Ytdagfocpbnamfaa

namespace Go.Proofs.Ytdagfocpbnamfaa
open Go Go.RowKit
set_option linter.unusedSimpArgs false
set_option linter.unusedVariables false
set_option maxRecDepth 100000

/-- A slice of n numbers in a block of its own, or of none. -/
def OwnL (w : World) (p : Option Addr) (n : Nat) (V : Nat → Int) : Prop := 0 < n → ∃ b c f, p = some ⟨b, 0, none⟩ ∧ w.rowIs b 3 c f ∧ n ≤ c ∧ ∀ i, i < n → f i = .int .i64 (V i)

/-- Behind a number of blocks. -/
def Past (p : Option Addr) (n B : Nat) : Prop := 0 < n → ∀ b, p = some ⟨b, 0, none⟩ → B ≤ b

theorem OwnL.block {w w' : World} {p : Option Addr} {n : Nat} {V : Nat → Int} (h : OwnL w p n V) (hw : 0 < n → ∀ b, p = some ⟨b, 0, none⟩ → w'.heap[b]? = w.heap[b]?) : OwnL w' p n V := fun hn => by
  obtain ⟨b, c, f, rfl, hr, hc, hf⟩ := h hn
  exact ⟨b, c, f, rfl, hr.of_block (hw hn b rfl), hc, hf⟩

theorem OwnL.lt {w : World} {p : Option Addr} {n : Nat} {V : Nat → Int} (h : OwnL w p n V) (hn : 0 < n) {b : Nat} (hp : p = some ⟨b, 0, none⟩) : b < w.heap.size := by
  obtain ⟨b2, c, f, rfl, hr, _⟩ := h hn
  cases hp
  exact hr.lt

theorem OwnL.ext {w w' : World} {p : Option Addr} {n : Nat} {V : Nat → Int} (h : OwnL w p n V) (hx : Ext w w') : OwnL w' p n V := h.block (fun hn b hp => hx.block _ (h.lt hn hp))

/-- A row that a function owns. -/
theorem own_form {w : World} {B n : Nat} {v : Value} {Q : Nat → Int} (h : w.ownsRow B 3 1 v n (patL Q n)) : ∃ p cap, v = .slice p n cap ∧ OwnL w p n Q ∧ Past p n B := by
  rcases h with ⟨hl, ⟨rfl, rfl⟩ | ⟨g, cap, cur, rfl, hb, hg, hn, hm, hs, ht⟩⟩
  · exact ⟨none, 0, rfl, fun h => absurd h (by decide), fun h => absurd h (by decide)⟩
  · refine ⟨_, cap, rfl, fun _ => ⟨g, cur.size, fun i => cur.getD i default, rfl, ⟨cur, hg, rfl, fun i hi => ?_⟩, by omega, fun i hi => ?_⟩, fun _ b hp => ?_⟩
    · simp [hi]
    · have e : (cur.toList.take (n * 1))[i]? = (patL Q n)[i]? := by rw [ht]
      rw [List.getElem?_take, if_pos (by omega)] at e
      unfold patL at e
      simp [hi] at e
      simp [e]
    · cases hp; exact hb

theorem row_own {w : World} {g n : Nat} {V : Nat → Int} (h : w.rowIs g 3 n (fun i => .int .i64 (V i))) : OwnL w (some ⟨g, 0, none⟩) n V := fun _ => ⟨g, n, _, rfl, h, Nat.le_refl _, fun _ _ => rfl⟩

set_option maxHeartbeats 1600000 in
theorem eqIntS_own (p q : Option Addr) (n c1 c2 : Nat) (V : Nat → Int) (hn : n ≤ 1048576) (w : World) (hp : OwnL w p n V) (hq : OwnL w q n V) : Calls Try.prog 18 #[.slice p n c1, .slice q n c2] w fun rv w' => rv = .returned (.bool true) ∧ Ext w w' := by
  go_enter Try.func18, Try.ntmps18
  go_wp2
  go_loopw [5] (fun x wr => ∃ k : Nat, x = .int .i64 (k : Int) ∧ k ≤ n ∧ OwnL wr p n V ∧ OwnL wr q n V ∧ Ext w wr) (fun x _ => n - (intOf x).toNat)
  case atStart => exact ⟨0, rfl, by omega, hp, hq, Ext.refl _⟩
  case round =>
    obtain ⟨k, rfl, hk, hra, hrb, hx⟩ := hrel
    by_cases hlt : k < n
    · obtain ⟨b1, d1, f1, rfl, ra, l1, e1⟩ := hra (by omega)
      obtain ⟨b2, d2, f2, rfl, rb, l2, e2⟩ := hrb (by omega)
      have h1 : ((k : Nat) : Int) < (n : Int) := by omega
      have h0 : (0 : Int) ≤ (k : Int) := by omega
      have h2 : ((k : Int)).toNat = k := by omega
      have u1 : IntKind.i64.wrap ((k : Int) + 1) = (k : Int) + 1 := IntWalk.i64_in _ (by omega)
      have u2 : IntKind.i64.wrap (1 + (k : Int) + 1) = 1 + (k : Int) + 1 := IntWalk.i64_in _ (by omega)
      have g1 : wr.cell? ⟨b1, k, none⟩ = some (.int .i64 (V k)) := by rw [ra.cell (by omega), e1 k hlt]
      have g2 : wr.cell? ⟨b2, k, none⟩ = some (.int .i64 (V k)) := by rw [rb.cell (by omega), e2 k hlt]
      have HA := Lib.hid hra
      have HB := Lib.hid hrb
      clear hra hrb hp hq ra rb e1 e2
      go_wp2_with fail
      go_region
      go_wp2_with fail
      go_roundw
      case rel => exact ⟨k + 1, by simp, by omega, HA.out.ext (by repeat (first | exact Ext.refl _ | with_reducible assumption | apply Ext.alloc | apply Ext.drew | apply Ext.drewN | (refine Ext.setRow ?_ (by first | (simp; done) | (simp; omega) | omega) _) | (refine Ext.setCell ?_ (by first | (simp; done) | (simp; omega) | omega) _) | (refine Ext.trans ?_ (by with_reducible assumption)))), HB.out.ext (by repeat (first | exact Ext.refl _ | with_reducible assumption | apply Ext.alloc | apply Ext.drew | apply Ext.drewN | (refine Ext.setRow ?_ (by first | (simp; done) | (simp; omega) | omega) _) | (refine Ext.setCell ?_ (by first | (simp; done) | (simp; omega) | omega) _) | (refine Ext.trans ?_ (by with_reducible assumption)))), (by repeat (first | exact Ext.refl _ | with_reducible assumption | apply Ext.alloc | apply Ext.drew | apply Ext.drewN | (refine Ext.setRow ?_ (by first | (simp; done) | (simp; omega) | omega) _) | (refine Ext.setCell ?_ (by first | (simp; done) | (simp; omega) | omega) _) | (refine Ext.trans ?_ (by with_reducible assumption))))⟩
      case measure => simp [intOf]; omega
    · have h1 : ¬ ((k : Nat) : Int) < (n : Int) := by omega
      go_wp2_with fail
      go_ret
      exact ⟨rfl, (by repeat (first | exact Ext.refl _ | with_reducible assumption | apply Ext.alloc | apply Ext.drew | apply Ext.drewN | (refine Ext.setRow ?_ (by first | (simp; done) | (simp; omega) | omega) _) | (refine Ext.setCell ?_ (by first | (simp; done) | (simp; omega) | omega) _) | (refine Ext.trans ?_ (by with_reducible assumption))))⟩

set_option maxHeartbeats 1600000 in
theorem heldIntS_own (p : Option Addr) (n c1 : Nat) (hn : n ≤ 1048576) (w : World) (hp : OwnL w p n (fun i => 1 + (i : Int))) : Calls Try.prog 20 #[.slice p n c1, .int .i64 1] w fun rv w' => rv = .returned (.int .i64 (1 + (n : Int))) ∧ Ext w w' := by
  go_enter Try.func20, Try.ntmps20
  go_wp2
  go_loopw [1, 5] (fun y x wr => ∃ k : Nat, x = .int .i64 (k : Int) ∧ k ≤ n ∧ y = .int .i64 (1 + (k : Int)) ∧ OwnL wr p n (fun i => 1 + (i : Int)) ∧ Ext w wr) (fun _ x _ => n - (intOf x).toNat)
  case atStart => exact ⟨0, rfl, by omega, by simp, hp, Ext.refl _⟩
  case round =>
    obtain ⟨k, rfl, hk, rfl, hra, hx⟩ := hrel
    by_cases hlt : k < n
    · obtain ⟨b1, d1, f1, rfl, ra, l1, e1⟩ := hra (by omega)
      have h1 : ((k : Nat) : Int) < (n : Int) := by omega
      have h0 : (0 : Int) ≤ (k : Int) := by omega
      have h2 : ((k : Int)).toNat = k := by omega
      have u1 : IntKind.i64.wrap ((k : Int) + 1) = (k : Int) + 1 := IntWalk.i64_in _ (by omega)
      have u2 : IntKind.i64.wrap (1 + (k : Int) + 1) = 1 + (k : Int) + 1 := IntWalk.i64_in _ (by omega)
      have g1 : wr.cell? ⟨b1, k, none⟩ = some (.int .i64 (1 + (k : Int))) := by rw [ra.cell (by omega), e1 k hlt]
      have HA := Lib.hid hra
      clear hra hp ra e1
      go_wp2_with fail
      try (go_region; go_wp2_with fail)
      go_roundw
      case rel => exact ⟨k + 1, by simp, by omega, by (first | rfl | (simp; omega) | (push_cast; congr 1; omega)), HA.out.ext (by repeat (first | exact Ext.refl _ | with_reducible assumption | apply Ext.alloc | apply Ext.drew | apply Ext.drewN | (refine Ext.setRow ?_ (by first | (simp; done) | (simp; omega) | omega) _) | (refine Ext.setCell ?_ (by first | (simp; done) | (simp; omega) | omega) _) | (refine Ext.trans ?_ (by with_reducible assumption)))), (by repeat (first | exact Ext.refl _ | with_reducible assumption | apply Ext.alloc | apply Ext.drew | apply Ext.drewN | (refine Ext.setRow ?_ (by first | (simp; done) | (simp; omega) | omega) _) | (refine Ext.setCell ?_ (by first | (simp; done) | (simp; omega) | omega) _) | (refine Ext.trans ?_ (by with_reducible assumption))))⟩
      case measure => simp [intOf]; omega
    · have h1 : ¬ ((k : Nat) : Int) < (n : Int) := by omega
      have hkn : k = n := by omega
      subst hkn
      go_wp2_with fail
      go_ret
      exact ⟨rfl, hx⟩

/-- All of a slice is marked; nothing else has turned. -/
structure Marked (w w' : World) (p : Option Addr) (n : Nat) : Prop where
  row : OwnL w' p n (fun i => 1 + (i : Int))
  os : w'.os = w.os
  tape : w'.tape = w.tape
  output : w'.output = w.output
  size : w'.heap.size = w.heap.size
  far : ∀ k, (0 < n → ∀ b, p = some ⟨b, 0, none⟩ → k ≠ b) → w'.heap[k]? = w.heap[k]?

set_option maxHeartbeats 1600000 in
theorem markIntS_own (p : Option Addr) (n c1 : Nat) (V : Nat → Int) (hn : n ≤ 1048576) (w : World) (hp : OwnL w p n V) : Calls Try.prog 19 #[.slice p n c1, .int .i64 1] w fun rv w' => rv = .returned (.int .i64 (1 + (n : Int))) ∧ Marked w w' p n := by
  by_cases hz : 0 < n
  · obtain ⟨b, c, f, rfl, hr, hc, hf⟩ := hp hz
    go_enter Try.func19, Try.ntmps19
    go_wp2
    go_loopw [1, 5] (fun y x wr => ∃ k : Nat, x = .int .i64 (k : Int) ∧ k ≤ n ∧ y = .int .i64 (1 + (k : Int)) ∧ wr.rowIs b 3 c (fun i => if i < k then .int .i64 (1 + (i : Int)) else f i) ∧ wr.os = w.os ∧ wr.tape = w.tape ∧ wr.output = w.output ∧ wr.heap.size = w.heap.size ∧ ∀ q, q ≠ b → wr.heap[q]? = w.heap[q]?) (fun _ x _ => n - (intOf x).toNat)
    case atStart => exact ⟨0, rfl, by omega, by simp, hr.congr (fun i _ => by rw [if_neg (by omega)]), rfl, rfl, rfl, rfl, fun _ _ => rfl⟩
    case round =>
      obtain ⟨k, rfl, hk, rfl, hra, ho, ht, hu, hsz, hfar⟩ := hrel
      by_cases hlt : k < n
      · skip
        have h1 : ((k : Nat) : Int) < (n : Int) := by omega
        have h0 : (0 : Int) ≤ (k : Int) := by omega
        have h2 : ((k : Int)).toNat = k := by omega
        have u1 : IntKind.i64.wrap ((k : Int) + 1) = (k : Int) + 1 := IntWalk.i64_in _ (by omega)
        have u2 : IntKind.i64.wrap (1 + (k : Int) + 1) = 1 + (k : Int) + 1 := IntWalk.i64_in _ (by omega)
        have g1 : wr.cell? ⟨b, k, none⟩ = some (f k) := by
          have := hra.cell (show k < c by omega)
          rwa [if_neg (by omega)] at this
        have g2 : wr.cell? ⟨b, k, none⟩ = some (.int .i64 (V k)) := by rw [g1, hf k hlt]
        have g3 : wr.frozen? ⟨b, k, none⟩ = false := hra.frozen k
        have HR : RowKit.Hid ((wr.setCell ⟨b, k, none⟩ (.int .i64 (1 + (k : Int)))).rowIs b 3 c (fun i => if i < k + 1 then .int .i64 (1 + (i : Int)) else f i)) := Lib.hid ((hra.set k _).congr (fun i hi => by
          by_cases e1 : i = k
          · subst e1; rw [if_pos rfl, if_pos (by omega)]
          · rw [if_neg e1]
            by_cases e2 : i < k
            · rw [if_pos e2, if_pos (by omega)]
            · rw [if_neg e2, if_neg (by omega)]))
        have HF : RowKit.Hid (∀ q, q ≠ b → (wr.setCell ⟨b, k, none⟩ (.int .i64 (1 + (k : Int)))).heap[q]? = w.heap[q]?) := Lib.hid (fun q hq => (Below.heap_setCell _ _ _ _ hq).trans (hfar q hq))
        clear g1 hra hfar hf hr hp
        go_wp2_with fail
        try (go_region; go_wp2_with fail)
        go_roundw
        case rel => exact ⟨k + 1, by simp, by omega, by (first | rfl | (simp; omega) | (push_cast; congr 1; omega)), HR.out, ho, ht, hu, by rw [World.size_setCell]; exact hsz, HF.out⟩
        case measure => simp [intOf]; omega
      · have h1 : ¬ ((k : Nat) : Int) < (n : Int) := by omega
        have hkn : k = n := by omega
        have HR := Lib.hid hra
        have HF := Lib.hid hfar
        clear hra hfar
        subst hkn
        go_wp2_with fail
        go_ret
        exact ⟨rfl, ⟨fun _ => ⟨b, c, _, rfl, HR.out, hc, fun i hi => by rw [if_pos hi]⟩, ho, ht, hu, hsz, fun q hq => HF.out q (hq hz b rfl)⟩⟩
  · have hz2 : n = 0 := by omega
    subst hz2
    go_enter Try.func19, Try.ntmps19
    go_wp2
    go_loopw [1, 5] (fun y x wr => x = .int .i64 0 ∧ y = .int .i64 1 ∧ wr = w) (fun _ x _ => 0)
    case atStart => exact ⟨rfl, rfl, rfl⟩
    case round =>
      obtain ⟨rfl, rfl, rfl⟩ := hrel
      go_wp2_with fail
      go_ret
      exact ⟨rfl, ⟨fun h => absurd h (by decide), rfl, rfl, rfl, rfl, fun _ _ => rfl⟩⟩

theorem mark_ext {w a b : World} {p : Option Addr} {n : Nat} (h : Ext w a) (m : Marked a b p n) (hp : Past p n w.heap.size) : Ext w b :=
  Below.trans h ⟨m.os, m.tape, m.output, Nat.le_of_eq m.size.symm, fun i hi => m.far i (fun hn b hb => by have := hp hn b hb; omega)⟩

theorem Past.le {p : Option Addr} {n B B2 : Nat} (h : Past p n B) (hb : B2 ≤ B) : Past p n B2 := fun hn b hp => Nat.le_trans hb (h hn b hp)

theorem own_nil (w : World) (V : Nat → Int) : OwnL w none 0 V := fun h => absurd h (by decide)

theorem past_nil (B : Nat) : Past none 0 B := fun h => absurd h (by decide)
end Go.Proofs.Ytdagfocpbnamfaa

namespace Go.Proofs.Ytdagfocpbnamfaa
open Go Go.RowKit
set_option linter.unusedSimpArgs false
set_option linter.unusedVariables false
set_option maxRecDepth 100000

theorem first_of {P : Nat → Prop} (i : Nat) (h : P i) : ∃ m, m ≤ i ∧ P m ∧ ∀ j, j < m → ¬ P j := by
  induction i using Nat.strongRecOn with
  | _ i ih =>
    by_cases q : ∃ j, j < i ∧ P j
    · obtain ⟨j, hj, hp⟩ := q
      obtain ⟨m, a, b, c⟩ := ih j hj hp
      exact ⟨m, by omega, b, c⟩
    · exact ⟨i, Nat.le_refl _, h, fun j hj hp => q ⟨j, hj, hp⟩⟩

theorem mg_nz {e f s : Int} (hg : goodB e f = true) (h : 0 < s) : 0 < mgV f s := by
  have := mg_mono f 1 s (good_iff.1 hg).2.2.1 (by decide) (by omega)
  have c := pw_pos f
  have c2 := (pw_facts (good_iff.1 hg).1 (good_iff.1 hg).2.1 (good_iff.1 hg).2.2.1 (good_iff.1 hg).2.2.2).2.2.1.1
  rw [mg_small f 1 (by decide) (by omega)] at this
  omega

theorem sign_012 {e f p : Int} (hp : patB e f p = true) : p / pw (e + f) = 0 ∨ p / pw (e + f) = 1 := by
  obtain ⟨_, p0, p1⟩ := pat_iff.1 hp
  have pp := pw_pos (e + f)
  have h1 : p / pw (e + f) < 2 := Int.ediv_lt_of_lt_mul pp p1
  have h2 : 0 ≤ p / pw (e + f) := Int.ediv_nonneg p0 (by omega)
  omega

theorem units_sign2 {e f p : Int} (hp : patB e f p = true) (h : (unitsV e f p) ≠ 0) : ((unitsV e f p) < 0 ↔ (p / pw (e + f)) = 1) := by
  have m := mag_bd e f p hp
  have sg := sign_012 hp
  unfold unitsV at h ⊢
  rcases sg with q | q <;> rw [q] at h ⊢ <;> simp at h ⊢ <;> omega

/-- A finite pattern's single is told as the pattern, a zero as 0. -/
theorem ez_zero {e f a : Int} (ha : finB e f a = true) : (ezV e f a = 0 ↔ unitsV e f a = 0) := by
  obtain ⟨hg, s0, s1, hn⟩ := fin_size ha
  unfold ezV
  by_cases z : a % pw (e + f) = 0
  · rw [if_pos z]
    rw [z, mg_zero] at hn
    exact ⟨fun _ => by omega, fun _ => rfl⟩
  · rw [if_neg z]
    have := mg_nz (s := a % pw (e + f)) hg (by omega)
    constructor
    · intro h; rw [h] at z; exact absurd (Int.zero_emod _) z
    · intro h; rw [h] at hn; simp at hn; omega

theorem pv_val (e f a : Int) (ha : finB e f a = true) (w : World) : Calls Try.prog 131 #[fmt e f, .float .f32 (cw (unitsV e f a))] w fun rv w' => rv = .returned (.tuple #[.int .i64 (ezV e f a), .bool true]) ∧ Ext w w' := by
  obtain ⟨hg, s0, s1, hn⟩ := fin_size ha
  have hpat := (fin_pat ha).1
  obtain ⟨_, p0, p1⟩ := pat_iff.1 hpat
  have pp := pw_pos (e + f)
  have h := pv_fin e f (a % pw (e + f)) (decide (unitsV e f a < 0)) hg s0 s1 w
  rw [← cw_mg hn] at h
  have hq : psV e f (sv (decide (unitsV e f a < 0)) (mgV f (a % pw (e + f))).toNat) (a % pw (e + f)) = ezV e f a := by
    unfold psV ezV sv
    by_cases z : a % pw (e + f) = 0
    · rw [if_pos z, z, mg_zero]
      rw [z, mg_zero] at hn
      have : ¬ unitsV e f a < 0 := by omega
      rw [decide_eq_false this]; simp
    · rw [if_neg z]
      have hm := mg_nz (s := a % pw (e + f)) hg (by omega)
      have hu : unitsV e f a ≠ 0 := by intro h0; rw [h0] at hn; simp at hn; omega
      have hs := units_sign2 hpat hu
      have hd := Int.emod_add_mul_ediv a (pw (e + f))
      by_cases n : unitsV e f a < 0
      · rw [decide_eq_true n, if_pos rfl, if_pos (by omega)]
        rw [hs.1 n, Int.mul_one] at hd
        omega
      · rw [decide_eq_false n]
        simp only [Bool.false_eq_true, if_false]
        rw [if_neg (by omega)]
        have h1 : a / pw (e + f) < 2 := Int.ediv_lt_of_lt_mul pp p1
        have h2 : 0 ≤ a / pw (e + f) := Int.ediv_nonneg p0 (by omega)
        have h3 : a / pw (e + f) ≠ 1 := fun q => n (hs.2 q)
        have h4 : a / pw (e + f) = 0 := by omega
        rw [h4, Int.mul_zero] at hd
        omega
  rw [hq] at h
  exact h

/-- A pattern whose single is told as the pattern. -/
def Told (e f q : Int) : Prop := finB e f q = true ∧ ∀ w, Calls Try.prog 131 #[fmt e f, .float .f32 (cw (unitsV e f q))] w fun rv w' => rv = .returned (.tuple #[.int .i64 q, .bool true]) ∧ Ext w w'

theorem er_told {e f a b : Int} (ha : finB e f a = true) (hb2 : finB e f b = true) (hB : nsB e f (unitsV e f a + unitsV e f b) = true) : Told e f (nsV e f (erU e f (unitsV e f a + unitsV e f b))) ∧ cw (erU e f (unitsV e f a + unitsV e f b)) = cw (unitsV e f (nsV e f (erU e f (unitsV e f a + unitsV e f b)))) ∧ (nsV e f (erU e f (unitsV e f a + unitsV e f b)) = 0 ↔ erU e f (unitsV e f a + unitsV e f b) = 0) ∧ Ok Ieee.single ((erU e f (unitsV e f a + unitsV e f b)).natAbs * 2 ^ 149) := by
  obtain ⟨hg, _⟩ := fin_size ha
  obtain ⟨o1, o2⟩ := two_err2 ha hb2 hB
  obtain ⟨f1, e1⟩ := er_val ha hb2 hB
  refine ⟨⟨f1, fun w => ?_⟩, by rw [e1], ?_, ?_⟩
  · have h := pv_ns e f (erU e f (unitsV e f a + unitsV e f b)) hg w
    rw [nr_cw hg o1, ← ns_units hg o1, o1, show nsR e f (erU e f (unitsV e f a + unitsV e f b)) = nsV e f (erU e f (unitsV e f a + unitsV e f b)) from if_pos o1] at h
    exact h
  · constructor
    · intro h
      rw [← e1, h]
      exact (zero_fin hg).2
    · intro h
      rw [h]
      exact (zero_ns hg).1
  · have := ok_units f1
    rwa [e1] at this

theorem kept_one {u : Int} (hu : Ok Ieee.single (u.natAbs * 2 ^ 149)) : keptL [cw u] = if u = 0 then [] else [cw u] := by
  unfold keptL
  rw [List.filter_cons, zero_val hu]
  by_cases h : u = 0
  · simp [h]
  · simp [h]

theorem kept_app (A B : List Nat) : keptL (A ++ B) = keptL A ++ keptL B := List.filter_append _ _

theorem gr_le {e f b : Int} {V : Nat → Int} {k n : Nat} (h : k ≤ n) (hb : grB e f V b n = true) : grB e f V b k = true := by
  cases hk : grB e f V b k
  · rw [grB_mono h hk] at hb; cases hb
  · rfl

theorem gL_rows {e f b : Int} {V : Nat → Int} {n : Nat} (hg : goodB e f = true) (hV : ∀ i, i < n → finB e f (V i) = true) (hb2 : finB e f b = true) (hB : grB e f V b n = true) (k : Nat) (hk : k ≤ n) :
    keptL (exL e f V b k) = (gL e f V b k).map (fun q => cw (unitsV e f q)) ∧ ∀ q, q ∈ gL e f V b k → Told e f q := by
  induction k with
  | zero => exact ⟨rfl, fun q hq => by cases hq⟩
  | succ k ih =>
    obtain ⟨i1, i2⟩ := ih (by omega)
    have hBk := gr_le (k := k) (by omega) hB
    have hBs := gr_le (k := k + 1) (by omega) hB
    rw [grB_succ, Bool.and_eq_true] at hBs
    obtain ⟨t1, t2, t3, t4⟩ := er_told (grS_fin hg hb2 k hBk) (hV k (by omega)) hBs.2
    rw [exL_succ, kept_app, kept_one t4, i1]
    by_cases hz : erP e f V b k = 0
    · rw [gL_nil hz, if_pos (t3.1 hz), List.append_nil]
      exact ⟨rfl, i2⟩
    · rw [gL_cons hz, if_neg (fun h => hz (t3.2 h)), List.map_append]
      refine ⟨by rw [t2]; rfl, fun q hq => ?_⟩
      rcases List.mem_append.1 hq with hq | hq
      · exact i2 q hq
      · rw [List.mem_singleton] at hq; subst hq; exact t1

theorem gO_rows {e f b : Int} {V : Nat → Int} {n : Nat} (hg : goodB e f = true) (hV : ∀ i, i < n → finB e f (V i) = true) (hb2 : finB e f b = true) (hB : grB e f V b n = true) :
    keptL (exL e f V b n ++ [cw (unitsV e f (grS e f V b n))]) = (gO e f V b n).map (fun q => cw (unitsV e f q)) ∧ ∀ q, q ∈ gO e f V b n → Told e f q := by
  obtain ⟨i1, i2⟩ := gL_rows hg hV hb2 hB n (Nat.le_refl _)
  have hf := grS_fin hg hb2 n hB
  have hz := ez_zero hf
  rw [kept_app, kept_one (ok_units hf), i1]
  unfold gO
  by_cases h : gT e f V b n = 0
  · rw [if_pos h, if_pos (hz.1 h), List.append_nil, List.append_nil]
    exact ⟨rfl, i2⟩
  · have hs : gT e f V b n = grS e f V b n := by
      unfold gT ezV at h ⊢
      by_cases q : grS e f V b n % pw (e + f) = 0
      · rw [if_pos q] at h; exact absurd rfl h
      · rw [if_neg q]
    rw [if_neg h, if_neg (fun q => h (hz.2 q)), List.map_append]
    refine ⟨by rw [hs]; rfl, fun q hq => ?_⟩
    rcases List.mem_append.1 hq with hq | hq
    · exact i2 q hq
    · rw [List.mem_singleton] at hq; subst hq
      refine ⟨by rw [hs]; exact hf, fun w => ?_⟩
      have := pv_val e f _ hf w
      rw [show ezV e f (grS e f V b n) = gT e f V b n from rfl] at this
      rw [hs] at this ⊢
      exact this

theorem gO_len (e f b : Int) (V : Nat → Int) (n : Nat) : (gO e f V b n).length ≤ n + 1 := by
  unfold gO
  have := gL_len e f b V n
  rw [List.length_append]
  split <;> simp <;> omega

theorem patL_of (l : List Int) : patL (fun i => l.getD i 0) l.length = l.map (Value.int .i64) := by
  unfold patL
  apply List.ext_getElem
  · simp
  · intro i h1 h2
    have : i < l.length := by simpa using h1
    simp [this]

/-- The patterns of a row of singles that are told. -/
theorem pa_told (e f : Int) (l : List Int) (hl : l.length ≤ 1000) (ht : ∀ q, q ∈ l → Told e f q) (gl cap : Nat) (w : World) (hgl : gl < w.heap.size) (hc : ∀ i x, (l.map (fun q => cw (unitsV e f q)))[i]? = some x → w.cell? ⟨gl, i, none⟩ = some (.float .f32 x)) :
    Calls Try.prog 67 #[fmt e f, .slice (some ⟨gl, 0, none⟩) l.length cap] w fun rv w' => ∃ v, rv = .returned (.tuple #[v, .bool true]) ∧ w'.ownsRow (w.heap.size + 1) 3 1 v l.length (l.map (Value.int .i64)) ∧ Ext w w' := by
  have := patternsOfAll_own e f (fun i => cw (unitsV e f (l.getD i 0))) (fun i => l.getD i 0) l.length cap (some ⟨gl, 0, none⟩) hl (fun i hi w => (ht (l.getD i 0) (by simp [hi])).2 w) w
    (fun _ => ⟨gl, rfl, hgl, fun i hi => hc i _ (by simp [hi])⟩)
  rw [patL_of] at this
  exact this

/-- Of a row with a bad single there are no patterns. -/
theorem pa_bad (e f : Int) (hg : goodB e f = true) (L : List Nat) (hl : L.length ≤ 1000) (hv : ∀ x, x ∈ L → VBP e f x) (hb : ∃ x, x ∈ L ∧ BadW x) (gl cap : Nat) (w : World) (hgl : gl < w.heap.size) (hc : ∀ i x, L[i]? = some x → w.cell? ⟨gl, i, none⟩ = some (.float .f32 x)) :
    Calls Try.prog 67 #[fmt e f, .slice (some ⟨gl, 0, none⟩) L.length cap] w fun rv w' => rv = .returned (.tuple #[.slice none 0 0, .bool false]) ∧ Ext w w' := by
  obtain ⟨x, hx, hbx⟩ := hb
  obtain ⟨j, hj, hjx⟩ := List.mem_iff_getElem.1 hx
  obtain ⟨m, hm, ⟨hm2, hbm⟩, hfirst⟩ := first_of (P := fun i => i < L.length ∧ BadW (L.getD i 0)) j ⟨hj, by simp [hj, hjx, hbx]⟩
  have key : ∀ i, i < m → ∃ q, ∀ w, Calls Try.prog 131 #[fmt e f, .float .f32 (L.getD i 0)] w fun rv w' => rv = .returned (.tuple #[.int .i64 q, .bool true]) ∧ Ext w w' := fun i hi => by
    have hil : i < L.length := by omega
    rcases hv (L.getD i 0) (by simp [hil]) with ⟨a, ha, hq⟩ | hq
    · rw [hq]; exact ⟨_, fun w => pv_val e f a ha w⟩
    · exact absurd ⟨hil, hq⟩ (hfirst i hi)
  refine patternsOfAll_stop e f (fun i => L.getD i 0) (fun i => if h : i < m then Classical.choose (key i h) else 0) L.length cap m (some ⟨gl, 0, none⟩) hl hm2 ?_ (fun w => pv_bad e f _ hbm w) w (fun _ => ⟨gl, rfl, hgl, fun i hi => hc i _ (by simp [hi])⟩)
  intro i hi w
  show Calls Try.prog 131 #[fmt e f, .float .f32 (L.getD i 0)] w _
  rw [dif_pos hi]
  exact Classical.choose_spec (key i hi) w
end Go.Proofs.Ytdagfocpbnamfaa

namespace Go.Proofs.Ytdagfocpbnamfaa
open Go Go.RowKit
set_option linter.unusedSimpArgs false
set_option linter.unusedVariables false
set_option maxRecDepth 100000

theorem grow_yes (e f : Int) (V : Nat → Int) (b : Int) (n cap : Nat) (p : Option Addr) (hg : goodB e f = true) (hn : n ≤ 1000) (hV : ∀ i, i < n → finB e f (V i) = true) (hb2 : finB e f b = true) (hB : grB e f V b n = true) (w : World) (hp : 0 < n → ∃ gl, p = some ⟨gl, 0, none⟩ ∧ gl < w.heap.size ∧ ∀ i, i < n → w.cell? ⟨gl, i, none⟩ = some (.float .f32 (cw (unitsV e f (V i))))) :
    Calls Try.prog 68 #[fmt e f, .slice p n cap, .float .f32 (cw (unitsV e f b))] w fun rv w' => ∃ gl c, rv = .returned (.slice (some ⟨gl, 0, none⟩) (gO e f V b n).length c) ∧ gl < w'.heap.size ∧ (∀ i x, ((gO e f V b n).map (fun q => cw (unitsV e f q)))[i]? = some x → w'.cell? ⟨gl, i, none⟩ = some (.float .f32 x)) ∧ Ext w w' := by
  refine (grow_any e f V b True (fun i => cw (unitsV e f (V i))) _ n cap p hg hn (fun i hi => vb_val (hV i hi)) (vb_val hb2) (fun _ => ⟨fun i hi => ⟨hV i hi, rfl⟩, hb2, rfl⟩) w hp).mono ?_
  rintro rv w' ⟨L, gl, c, rfl, hO, _, hl, hc, hx⟩
  have hL : L = (gO e f V b n).map (fun q => cw (unitsV e f q)) := (hO.2.2.2 True.intro hB).trans (gO_rows hg hV hb2 hB).1
  subst hL
  exact ⟨gl, c, by rw [List.length_map], hl, hc, hx⟩

theorem grow_no (e f : Int) (V : Nat → Int) (b : Int) (n cap : Nat) (p : Option Addr) (hg : goodB e f = true) (hn : n ≤ 900) (hV : ∀ i, i < n → finB e f (V i) = true) (hb2 : finB e f b = true) (hB : grB e f V b n = false) (w : World) (hp : 0 < n → ∃ gl, p = some ⟨gl, 0, none⟩ ∧ gl < w.heap.size ∧ ∀ i, i < n → w.cell? ⟨gl, i, none⟩ = some (.float .f32 (cw (unitsV e f (V i))))) :
    Calls Try.prog 68 #[fmt e f, .slice p n cap, .float .f32 (cw (unitsV e f b))] w fun rv w' => ∃ m gl c, rv = .returned (.slice (some ⟨gl, 0, none⟩) m c) ∧ (∃ L : List Nat, L.length = m ∧ L.length ≤ 1000 ∧ (∀ x, x ∈ L → VBP e f x) ∧ (∃ x, x ∈ L ∧ BadW x) ∧ ∀ i x, L[i]? = some x → w'.cell? ⟨gl, i, none⟩ = some (.float .f32 x)) ∧ gl < w'.heap.size ∧ Ext w w' := by
  refine (grow_any e f V b True (fun i => cw (unitsV e f (V i))) _ n cap p hg (by omega) (fun i hi => vb_val (hV i hi)) (vb_val hb2) (fun _ => ⟨fun i hi => ⟨hV i hi, rfl⟩, hb2, rfl⟩) w hp).mono ?_
  rintro rv w' ⟨L, gl, c, rfl, hO, _, hl, hc, hx⟩
  exact ⟨L.length, gl, c, rfl, ⟨L, rfl, by have := hO.1; omega, hO.2.1, hO.2.2.1 (Or.inr (Or.inr ⟨True.intro, hB⟩)), hc⟩, hl, hx⟩

/-- What GrowExpansion answers. -/
noncomputable def gxB (e f : Int) (V : Nat → Int) (b : Int) (n : Nat) : Bool := lstB e f V n && (finB e f b && grB e f V b n)

noncomputable def gxN (e f : Int) (V : Nat → Int) (b : Int) (n : Nat) : Nat := (gO e f V b n).length

noncomputable def gxQ (e f : Int) (V : Nat → Int) (b : Int) (n : Nat) (i : Nat) : Int := (gO e f V b n).getD i 0

theorem own_gx {e f b : Int} {V : Nat → Int} {n B : Nat} {w : World} {v : Value} (h : w.ownsRow B 3 1 v (gO e f V b n).length ((gO e f V b n).map (Value.int .i64))) : ∃ p cap, v = .slice p (gxN e f V b n) cap ∧ OwnL w p (gxN e f V b n) (gxQ e f V b n) ∧ Past p (gxN e f V b n) B := by
  rw [← patL_of] at h
  exact own_form h

theorem exGrow_yes (e f : Int) (V : Nat → Int) (b : Int) (n cap : Nat) (p : Option Addr) (hg : goodB e f = true) (hn : n ≤ 1000) (hV : ∀ i, i < n → finB e f (V i) = true) (hb2 : finB e f b = true) (hB : grB e f V b n = true) (w : World) (hp : 0 < n → ∃ gl, p = some ⟨gl, 0, none⟩ ∧ gl < w.heap.size ∧ ∀ i, i < n → w.cell? ⟨gl, i, none⟩ = some (.int .i64 (V i))) :
    Calls Try.prog 65 #[fmt e f, .slice p n cap, .int .i64 b] w fun rv w' => ∃ q c, rv = .returned (.tuple #[.slice q (gxN e f V b n) c, .bool true]) ∧ (OwnL w' q (gxN e f V b n) (gxQ e f V b n) ∧ Past q (gxN e f V b n) (w.heap.size + 1)) ∧ Ext w w' := by
  refine (exGrow_any e f V b n cap p hg hn hV hb2 w hp).mono ?_
  intro rv w' h
  obtain ⟨v, rfl, ho, hx⟩ := h.1 hB
  obtain ⟨q, c, rfl, h1, h2⟩ := own_gx ho
  exact ⟨q, c, rfl, ⟨h1, h2⟩, hx⟩

theorem exGrow_no (e f : Int) (V : Nat → Int) (b : Int) (n cap : Nat) (p : Option Addr) (hg : goodB e f = true) (hn : n ≤ 1000) (hV : ∀ i, i < n → finB e f (V i) = true) (hb2 : finB e f b = true) (hB : grB e f V b n = false) (w : World) (hp : 0 < n → ∃ gl, p = some ⟨gl, 0, none⟩ ∧ gl < w.heap.size ∧ ∀ i, i < n → w.cell? ⟨gl, i, none⟩ = some (.int .i64 (V i))) :
    Calls Try.prog 65 #[fmt e f, .slice p n cap, .int .i64 b] w fun rv w' => rv = .returned (.tuple #[.slice none 0 0, .bool false]) ∧ Ext w w' := by
  refine (exGrow_any e f V b n cap p hg hn hV hb2 w hp).mono ?_
  intro rv w' h
  exact h.2 hB

set_option maxHeartbeats 3200000 in
theorem sGrowExpansion_no (e f : Int) (V : Nat → Int) (b : Int) (bb n : Nat) (hN : gxB e f V b n = false) (w : World) (h : w.rowIs bb 3 n (fun i => .int .i64 (V i))) : Calls Try.prog 14 #[fmt e f, .slice (some ⟨bb, 0, none⟩) n n, .int .i64 b] w fun rv w' => rv = .returned (.tuple #[.slice none 0 0, .bool false]) ∧ Ext w w' := by
  have hc : ∀ i, i < n → w.cell? ((⟨bb, 0, none⟩ : Addr).add i) = some (.int .i64 (V i)) := fun i hi => by
    have := h.cell hi
    simp only [Addr.add]; split
    · rename_i h0; subst h0; simpa using this
    · simpa using this
  cases hL : lstB e f V n
  · have EA := Lib.hid (fun w hc ha => exList_any e f V (⟨bb, 0, none⟩ : Addr) n n w hc ha)
    rw [hL] at EA
    clear hL
    go_enter Try.func14, Try.ntmps14
    go_wp2_with (go_at_call 63; refine (EA.out _ (fun i hi => (ext_add (a := (⟨bb, 0, none⟩ : Addr)) (w := w) (by repeat (first | exact Ext.refl _ | with_reducible assumption | apply Ext.alloc | apply Ext.drew | apply Ext.drewN | (refine Ext.setRow ?_ (by first | (simp; done) | (simp; omega) | omega) _) | (refine Ext.setCell ?_ (by first | (simp; done) | (simp; omega) | omega) _) | (refine Ext.trans ?_ (by with_reducible assumption)))) h.lt i).trans (hc i hi)) (by first | exact (row_ext h (by repeat (first | exact Ext.refl _ | with_reducible assumption | apply Ext.alloc | apply Ext.drew | apply Ext.drewN | (refine Ext.setRow ?_ (by first | (simp; done) | (simp; omega) | omega) _) | (refine Ext.setCell ?_ (by first | (simp; done) | (simp; omega) | omega) _) | (refine Ext.trans ?_ (by with_reducible assumption))))).lt | (simp; have := h.lt; omega))).mono ?_; rintro rv w1 ⟨rfl, hb⟩; have ns : w.heap.size < w1.heap.size := hb.lt (by first | with_reducible assumption | omega | (simp; done) | (simp; omega)); have n0 : w1.cell? ⟨w.heap.size, 0, none⟩ = some (.int .i64 e) := (hb.cells _ _ (by first | with_reducible assumption | omega | (simp; done) | (simp; omega))).trans (by first | with_reducible assumption | (simp; done) | (simp; with_reducible assumption) | (rw [cell_alloc_before _ _ _ _ (by omega)]; with_reducible assumption) | (simp [go_sem, *]; done)); have n1 : w1.cell? ⟨w.heap.size, 1, none⟩ = some (.int .i64 f) := (hb.cells _ _ (by first | with_reducible assumption | omega | (simp; done) | (simp; omega))).trans (by first | with_reducible assumption | (simp; done) | (simp; with_reducible assumption) | (rw [cell_alloc_before _ _ _ _ (by omega)]; with_reducible assumption) | (simp [go_sem, *]; done)); (first | (have nx := Ext.trans hx hb; clear hx) | (have nx := Ext.trans (hx.alloc _) hb; clear hx) | (have nx := Ext.trans hx.drew hb; clear hx) | have nx := hb); clear hb; try clear hs; try clear g0; try clear g1; have hx := nx; clear nx; have hs := ns; clear ns; have g0 := n0; clear n0; have g1 := n1; clear n1)
    go_ret2
    exact ⟨rfl, (by repeat (first | exact Ext.refl _ | with_reducible assumption | apply Ext.alloc | apply Ext.drew | apply Ext.drewN | (refine Ext.setRow ?_ (by first | (simp; done) | (simp; omega) | omega) _) | (refine Ext.setCell ?_ (by first | (simp; done) | (simp; omega) | omega) _) | (refine Ext.trans ?_ (by with_reducible assumption))))⟩
  · obtain ⟨hg, h12, hV⟩ := lst_iff.1 hL
    have EA := Lib.hid (fun w hc ha => exList_any e f V (⟨bb, 0, none⟩ : Addr) n n w hc ha)
    rw [hL] at EA
    have FA := Lib.hid (fun w => fmFinite_any e f b w)
    cases hF : finB e f b
    · rw [hF] at FA
      clear hF hL hV
      go_enter Try.func14, Try.ntmps14
      go_wp2_with (first | (go_at_call 63; refine (EA.out _ (fun i hi => (ext_add (a := (⟨bb, 0, none⟩ : Addr)) (w := w) (by repeat (first | exact Ext.refl _ | with_reducible assumption | apply Ext.alloc | apply Ext.drew | apply Ext.drewN | (refine Ext.setRow ?_ (by first | (simp; done) | (simp; omega) | omega) _) | (refine Ext.setCell ?_ (by first | (simp; done) | (simp; omega) | omega) _) | (refine Ext.trans ?_ (by with_reducible assumption)))) h.lt i).trans (hc i hi)) (by first | exact (row_ext h (by repeat (first | exact Ext.refl _ | with_reducible assumption | apply Ext.alloc | apply Ext.drew | apply Ext.drewN | (refine Ext.setRow ?_ (by first | (simp; done) | (simp; omega) | omega) _) | (refine Ext.setCell ?_ (by first | (simp; done) | (simp; omega) | omega) _) | (refine Ext.trans ?_ (by with_reducible assumption))))).lt | (simp; have := h.lt; omega))).mono ?_; rintro rv w1 ⟨rfl, hb⟩; have ns : w.heap.size < w1.heap.size := hb.lt (by first | with_reducible assumption | omega | (simp; done) | (simp; omega)); have n0 : w1.cell? ⟨w.heap.size, 0, none⟩ = some (.int .i64 e) := (hb.cells _ _ (by first | with_reducible assumption | omega | (simp; done) | (simp; omega))).trans (by first | with_reducible assumption | (simp; done) | (simp; with_reducible assumption) | (rw [cell_alloc_before _ _ _ _ (by omega)]; with_reducible assumption) | (simp [go_sem, *]; done)); have n1 : w1.cell? ⟨w.heap.size, 1, none⟩ = some (.int .i64 f) := (hb.cells _ _ (by first | with_reducible assumption | omega | (simp; done) | (simp; omega))).trans (by first | with_reducible assumption | (simp; done) | (simp; with_reducible assumption) | (rw [cell_alloc_before _ _ _ _ (by omega)]; with_reducible assumption) | (simp [go_sem, *]; done)); (first | (have nx := Ext.trans hx hb; clear hx) | (have nx := Ext.trans (hx.alloc _) hb; clear hx) | (have nx := Ext.trans hx.drew hb; clear hx) | have nx := hb); clear hb; try clear hs; try clear g0; try clear g1; have hx := nx; clear nx; have hs := ns; clear ns; have g0 := n0; clear n0; have g1 := n1; clear n1) | (go_at_call 64; refine (FA.out _).mono ?_; rintro rv w2 ⟨rfl, hb⟩; have ns : w.heap.size < w2.heap.size := hb.lt (by first | with_reducible assumption | omega | (simp; done) | (simp; omega)); have n0 : w2.cell? ⟨w.heap.size, 0, none⟩ = some (.int .i64 e) := (hb.cells _ _ (by first | with_reducible assumption | omega | (simp; done) | (simp; omega))).trans (by first | with_reducible assumption | (simp; done) | (simp; with_reducible assumption) | (rw [cell_alloc_before _ _ _ _ (by omega)]; with_reducible assumption) | (simp [go_sem, *]; done)); have n1 : w2.cell? ⟨w.heap.size, 1, none⟩ = some (.int .i64 f) := (hb.cells _ _ (by first | with_reducible assumption | omega | (simp; done) | (simp; omega))).trans (by first | with_reducible assumption | (simp; done) | (simp; with_reducible assumption) | (rw [cell_alloc_before _ _ _ _ (by omega)]; with_reducible assumption) | (simp [go_sem, *]; done)); (first | (have nx := Ext.trans hx hb; clear hx) | (have nx := Ext.trans (hx.alloc _) hb; clear hx) | (have nx := Ext.trans hx.drew hb; clear hx) | have nx := hb); clear hb; try clear hs; try clear g0; try clear g1; have hx := nx; clear nx; have hs := ns; clear ns; have g0 := n0; clear n0; have g1 := n1; clear n1))
      go_ret2
      exact ⟨rfl, (by repeat (first | exact Ext.refl _ | with_reducible assumption | apply Ext.alloc | apply Ext.drew | apply Ext.drewN | (refine Ext.setRow ?_ (by first | (simp; done) | (simp; omega) | omega) _) | (refine Ext.setCell ?_ (by first | (simp; done) | (simp; omega) | omega) _) | (refine Ext.trans ?_ (by with_reducible assumption))))⟩
    · have hB : grB e f V b n = false := by unfold gxB at hN; rw [hL, hF] at hN; simpa using hN
      have GA := Lib.hid (fun cap p w hp => exGrow_no e f V b n cap p hg (by omega) hV hF hB w hp)
      rw [hF] at FA
      clear hF hL hV hB hN
      go_enter Try.func14, Try.ntmps14
      go_wp2_with (first | (go_at_call 63; refine (EA.out _ (fun i hi => (ext_add (a := (⟨bb, 0, none⟩ : Addr)) (w := w) (by repeat (first | exact Ext.refl _ | with_reducible assumption | apply Ext.alloc | apply Ext.drew | apply Ext.drewN | (refine Ext.setRow ?_ (by first | (simp; done) | (simp; omega) | omega) _) | (refine Ext.setCell ?_ (by first | (simp; done) | (simp; omega) | omega) _) | (refine Ext.trans ?_ (by with_reducible assumption)))) h.lt i).trans (hc i hi)) (by first | exact (row_ext h (by repeat (first | exact Ext.refl _ | with_reducible assumption | apply Ext.alloc | apply Ext.drew | apply Ext.drewN | (refine Ext.setRow ?_ (by first | (simp; done) | (simp; omega) | omega) _) | (refine Ext.setCell ?_ (by first | (simp; done) | (simp; omega) | omega) _) | (refine Ext.trans ?_ (by with_reducible assumption))))).lt | (simp; have := h.lt; omega))).mono ?_; rintro rv w1 ⟨rfl, hb⟩; have ns : w.heap.size < w1.heap.size := hb.lt (by first | with_reducible assumption | omega | (simp; done) | (simp; omega)); have n0 : w1.cell? ⟨w.heap.size, 0, none⟩ = some (.int .i64 e) := (hb.cells _ _ (by first | with_reducible assumption | omega | (simp; done) | (simp; omega))).trans (by first | with_reducible assumption | (simp; done) | (simp; with_reducible assumption) | (rw [cell_alloc_before _ _ _ _ (by omega)]; with_reducible assumption) | (simp [go_sem, *]; done)); have n1 : w1.cell? ⟨w.heap.size, 1, none⟩ = some (.int .i64 f) := (hb.cells _ _ (by first | with_reducible assumption | omega | (simp; done) | (simp; omega))).trans (by first | with_reducible assumption | (simp; done) | (simp; with_reducible assumption) | (rw [cell_alloc_before _ _ _ _ (by omega)]; with_reducible assumption) | (simp [go_sem, *]; done)); (first | (have nx := Ext.trans hx hb; clear hx) | (have nx := Ext.trans (hx.alloc _) hb; clear hx) | (have nx := Ext.trans hx.drew hb; clear hx) | have nx := hb); clear hb; try clear hs; try clear g0; try clear g1; have hx := nx; clear nx; have hs := ns; clear ns; have g0 := n0; clear n0; have g1 := n1; clear n1) | (go_at_call 64; refine (FA.out _).mono ?_; rintro rv w2 ⟨rfl, hb⟩; have ns : w.heap.size < w2.heap.size := hb.lt (by first | with_reducible assumption | omega | (simp; done) | (simp; omega)); have n0 : w2.cell? ⟨w.heap.size, 0, none⟩ = some (.int .i64 e) := (hb.cells _ _ (by first | with_reducible assumption | omega | (simp; done) | (simp; omega))).trans (by first | with_reducible assumption | (simp; done) | (simp; with_reducible assumption) | (rw [cell_alloc_before _ _ _ _ (by omega)]; with_reducible assumption) | (simp [go_sem, *]; done)); have n1 : w2.cell? ⟨w.heap.size, 1, none⟩ = some (.int .i64 f) := (hb.cells _ _ (by first | with_reducible assumption | omega | (simp; done) | (simp; omega))).trans (by first | with_reducible assumption | (simp; done) | (simp; with_reducible assumption) | (rw [cell_alloc_before _ _ _ _ (by omega)]; with_reducible assumption) | (simp [go_sem, *]; done)); (first | (have nx := Ext.trans hx hb; clear hx) | (have nx := Ext.trans (hx.alloc _) hb; clear hx) | (have nx := Ext.trans hx.drew hb; clear hx) | have nx := hb); clear hb; try clear hs; try clear g0; try clear g1; have hx := nx; clear nx; have hs := ns; clear ns; have g0 := n0; clear n0; have g1 := n1; clear n1) | (go_at_call 65; refine (GA.out _ _ _ (fun hn => ⟨bb, rfl, (row_ext h (by repeat (first | exact Ext.refl _ | with_reducible assumption | apply Ext.alloc | apply Ext.drew | apply Ext.drewN | (refine Ext.setRow ?_ (by first | (simp; done) | (simp; omega) | omega) _) | (refine Ext.setCell ?_ (by first | (simp; done) | (simp; omega) | omega) _) | (refine Ext.trans ?_ (by with_reducible assumption))))).lt, fun i hi => (row_ext h (by repeat (first | exact Ext.refl _ | with_reducible assumption | apply Ext.alloc | apply Ext.drew | apply Ext.drewN | (refine Ext.setRow ?_ (by first | (simp; done) | (simp; omega) | omega) _) | (refine Ext.setCell ?_ (by first | (simp; done) | (simp; omega) | omega) _) | (refine Ext.trans ?_ (by with_reducible assumption))))).cell hi⟩)).mono ?_; rintro rv w3 ⟨rfl, hb⟩; have ns : w.heap.size < w3.heap.size := hb.lt (by first | with_reducible assumption | omega | (simp; done) | (simp; omega)); have n0 : w3.cell? ⟨w.heap.size, 0, none⟩ = some (.int .i64 e) := (hb.cells _ _ (by first | with_reducible assumption | omega | (simp; done) | (simp; omega))).trans (by first | with_reducible assumption | (simp; done) | (simp; with_reducible assumption) | (rw [cell_alloc_before _ _ _ _ (by omega)]; with_reducible assumption) | (simp [go_sem, *]; done)); have n1 : w3.cell? ⟨w.heap.size, 1, none⟩ = some (.int .i64 f) := (hb.cells _ _ (by first | with_reducible assumption | omega | (simp; done) | (simp; omega))).trans (by first | with_reducible assumption | (simp; done) | (simp; with_reducible assumption) | (rw [cell_alloc_before _ _ _ _ (by omega)]; with_reducible assumption) | (simp [go_sem, *]; done)); (first | (have nx := Ext.trans hx hb; clear hx) | (have nx := Ext.trans (hx.alloc _) hb; clear hx) | (have nx := Ext.trans hx.drew hb; clear hx) | have nx := hb); clear hb; try clear hs; try clear g0; try clear g1; have hx := nx; clear nx; have hs := ns; clear ns; have g0 := n0; clear n0; have g1 := n1; clear n1))
      go_ret2
      exact ⟨rfl, (by repeat (first | exact Ext.refl _ | with_reducible assumption | apply Ext.alloc | apply Ext.drew | apply Ext.drewN | (refine Ext.setRow ?_ (by first | (simp; done) | (simp; omega) | omega) _) | (refine Ext.setCell ?_ (by first | (simp; done) | (simp; omega) | omega) _) | (refine Ext.trans ?_ (by with_reducible assumption))))⟩

set_option maxHeartbeats 3200000 in
theorem sGrowExpansion_yes (e f : Int) (V : Nat → Int) (b : Int) (bb n : Nat) (hN : gxB e f V b n = true) (w : World) (h : w.rowIs bb 3 n (fun i => .int .i64 (V i))) :
    Calls Try.prog 14 #[fmt e f, .slice (some ⟨bb, 0, none⟩) n n, .int .i64 b] w fun rv w' => ∃ q c, rv = .returned (.tuple #[.slice q (gxN e f V b n) c, .bool true]) ∧ OwnL w' q (gxN e f V b n) (gxQ e f V b n) ∧ Past q (gxN e f V b n) w.heap.size ∧ Ext w w' := by
  have hc : ∀ i, i < n → w.cell? ((⟨bb, 0, none⟩ : Addr).add i) = some (.int .i64 (V i)) := fun i hi => by
    have := h.cell hi
    simp only [Addr.add]; split
    · rename_i h0; subst h0; simpa using this
    · simpa using this
  unfold gxB at hN
  rw [Bool.and_eq_true, Bool.and_eq_true] at hN
  obtain ⟨hL, hF, hB⟩ := hN
  obtain ⟨hg, h12, hV⟩ := lst_iff.1 hL
  have EA := Lib.hid (fun w hc ha => exList_any e f V (⟨bb, 0, none⟩ : Addr) n n w hc ha)
  have FA := Lib.hid (fun w => fmFinite_any e f b w)
  have GA := Lib.hid (fun cap p w hp => exGrow_yes e f V b n cap p hg (by omega) hV hF hB w hp)
  rw [hL] at EA
  rw [hF] at FA
  clear hF hL hV hB
  generalize gxN e f V b n = m at *
  generalize gxQ e f V b n = Q at *
  go_enter Try.func14, Try.ntmps14
  go_wp2_with (first | (go_at_call 63; refine (EA.out _ (fun i hi => (ext_add (a := (⟨bb, 0, none⟩ : Addr)) (w := w) (by repeat (first | exact Ext.refl _ | with_reducible assumption | apply Ext.alloc | apply Ext.drew | apply Ext.drewN | (refine Ext.setRow ?_ (by first | (simp; done) | (simp; omega) | omega) _) | (refine Ext.setCell ?_ (by first | (simp; done) | (simp; omega) | omega) _) | (refine Ext.trans ?_ (by with_reducible assumption)))) h.lt i).trans (hc i hi)) (by first | exact (row_ext h (by repeat (first | exact Ext.refl _ | with_reducible assumption | apply Ext.alloc | apply Ext.drew | apply Ext.drewN | (refine Ext.setRow ?_ (by first | (simp; done) | (simp; omega) | omega) _) | (refine Ext.setCell ?_ (by first | (simp; done) | (simp; omega) | omega) _) | (refine Ext.trans ?_ (by with_reducible assumption))))).lt | (simp; have := h.lt; omega))).mono ?_; rintro rv w1 ⟨rfl, hb⟩; have ns : w.heap.size < w1.heap.size := hb.lt (by first | with_reducible assumption | omega | (simp; done) | (simp; omega)); have n0 : w1.cell? ⟨w.heap.size, 0, none⟩ = some (.int .i64 e) := (hb.cells _ _ (by first | with_reducible assumption | omega | (simp; done) | (simp; omega))).trans (by first | with_reducible assumption | (simp; done) | (simp; with_reducible assumption) | (rw [cell_alloc_before _ _ _ _ (by omega)]; with_reducible assumption) | (simp [go_sem, *]; done)); have n1 : w1.cell? ⟨w.heap.size, 1, none⟩ = some (.int .i64 f) := (hb.cells _ _ (by first | with_reducible assumption | omega | (simp; done) | (simp; omega))).trans (by first | with_reducible assumption | (simp; done) | (simp; with_reducible assumption) | (rw [cell_alloc_before _ _ _ _ (by omega)]; with_reducible assumption) | (simp [go_sem, *]; done)); (first | (have nx := Ext.trans hx hb; clear hx) | (have nx := Ext.trans (hx.alloc _) hb; clear hx) | (have nx := Ext.trans hx.drew hb; clear hx) | have nx := hb); clear hb; try clear hs; try clear g0; try clear g1; have hx := nx; clear nx; have hs := ns; clear ns; have g0 := n0; clear n0; have g1 := n1; clear n1) | (go_at_call 64; refine (FA.out _).mono ?_; rintro rv w2 ⟨rfl, hb⟩; have ns : w.heap.size < w2.heap.size := hb.lt (by first | with_reducible assumption | omega | (simp; done) | (simp; omega)); have n0 : w2.cell? ⟨w.heap.size, 0, none⟩ = some (.int .i64 e) := (hb.cells _ _ (by first | with_reducible assumption | omega | (simp; done) | (simp; omega))).trans (by first | with_reducible assumption | (simp; done) | (simp; with_reducible assumption) | (rw [cell_alloc_before _ _ _ _ (by omega)]; with_reducible assumption) | (simp [go_sem, *]; done)); have n1 : w2.cell? ⟨w.heap.size, 1, none⟩ = some (.int .i64 f) := (hb.cells _ _ (by first | with_reducible assumption | omega | (simp; done) | (simp; omega))).trans (by first | with_reducible assumption | (simp; done) | (simp; with_reducible assumption) | (rw [cell_alloc_before _ _ _ _ (by omega)]; with_reducible assumption) | (simp [go_sem, *]; done)); (first | (have nx := Ext.trans hx hb; clear hx) | (have nx := Ext.trans (hx.alloc _) hb; clear hx) | (have nx := Ext.trans hx.drew hb; clear hx) | have nx := hb); clear hb; try clear hs; try clear g0; try clear g1; have hx := nx; clear nx; have hs := ns; clear ns; have g0 := n0; clear n0; have g1 := n1; clear n1) | (go_at_call 65; refine (GA.out _ _ _ (fun hn => ⟨bb, rfl, (row_ext h (by repeat (first | exact Ext.refl _ | with_reducible assumption | apply Ext.alloc | apply Ext.drew | apply Ext.drewN | (refine Ext.setRow ?_ (by first | (simp; done) | (simp; omega) | omega) _) | (refine Ext.setCell ?_ (by first | (simp; done) | (simp; omega) | omega) _) | (refine Ext.trans ?_ (by with_reducible assumption))))).lt, fun i hi => (row_ext h (by repeat (first | exact Ext.refl _ | with_reducible assumption | apply Ext.alloc | apply Ext.drew | apply Ext.drewN | (refine Ext.setRow ?_ (by first | (simp; done) | (simp; omega) | omega) _) | (refine Ext.setCell ?_ (by first | (simp; done) | (simp; omega) | omega) _) | (refine Ext.trans ?_ (by with_reducible assumption))))).cell hi⟩)).mono ?_; rintro rv w3 ⟨q, c, rfl, hq, hb⟩; have HQ := Lib.hid hq.1; have HQ2 := Lib.hid (hq.2.le (B2 := w.heap.size) (by omega)); clear hq; have ns : w.heap.size < w3.heap.size := hb.lt (by first | with_reducible assumption | omega | (simp; done) | (simp; omega)); have n0 : w3.cell? ⟨w.heap.size, 0, none⟩ = some (.int .i64 e) := (hb.cells _ _ (by first | with_reducible assumption | omega | (simp; done) | (simp; omega))).trans (by first | with_reducible assumption | (simp; done) | (simp; with_reducible assumption) | (rw [cell_alloc_before _ _ _ _ (by omega)]; with_reducible assumption) | (simp [go_sem, *]; done)); have n1 : w3.cell? ⟨w.heap.size, 1, none⟩ = some (.int .i64 f) := (hb.cells _ _ (by first | with_reducible assumption | omega | (simp; done) | (simp; omega))).trans (by first | with_reducible assumption | (simp; done) | (simp; with_reducible assumption) | (rw [cell_alloc_before _ _ _ _ (by omega)]; with_reducible assumption) | (simp [go_sem, *]; done)); (first | (have nx := Ext.trans hx hb; clear hx) | (have nx := Ext.trans (hx.alloc _) hb; clear hx) | (have nx := Ext.trans hx.drew hb; clear hx) | have nx := hb); clear hb; try clear hs; try clear g0; try clear g1; have hx := nx; clear nx; have hs := ns; clear ns; have g0 := n0; clear n0; have g1 := n1; clear n1))
  go_ret2
  exact ⟨q, c, rfl, HQ.out, HQ2.out, (by repeat (first | exact Ext.refl _ | with_reducible assumption | apply Ext.alloc | apply Ext.drew | apply Ext.drewN | (refine Ext.setRow ?_ (by first | (simp; done) | (simp; omega) | omega) _) | (refine Ext.setCell ?_ (by first | (simp; done) | (simp; omega) | omega) _) | (refine Ext.trans ?_ (by with_reducible assumption))))⟩
end Go.Proofs.Ytdagfocpbnamfaa

namespace Go.Proofs.Ytdagfocpbnamfaa
open Go Go.RowKit
set_option linter.unusedSimpArgs false
set_option linter.unusedVariables false
set_option maxRecDepth 100000

theorem lst_one {e f b : Int} (hg : goodB e f = true) : lstB e f (fun _ => b) 1 = finB e f b := by
  unfold lstB allF
  rw [hg]
  simp

theorem hpv_cw {e f : Int} {V : Nat → Int} {n : Nat} {p : Option Addr} {w : World} (h : HPV e f V n p w) : 0 < n → ∃ gl, p = some ⟨gl, 0, none⟩ ∧ gl < w.heap.size ∧ ∀ i, i < n → w.cell? ⟨gl, i, none⟩ = some (.float .f32 (cw (unitsV e f (V i)))) := fun hn => by
  obtain ⟨gl, a, b, c⟩ := h hn
  exact ⟨gl, a, b, fun i hi => by rw [← int_cw]; exact c i hi⟩

theorem pa_gx (e f : Int) (V : Nat → Int) (b : Int) (n : Nat) (hg : goodB e f = true) (hn : n ≤ 900) (hV : ∀ i, i < n → finB e f (V i) = true) (hb2 : finB e f b = true) (hB : grB e f V b n = true) (gl cap : Nat) (w : World) (hgl : gl < w.heap.size) (hc : ∀ i x, ((gO e f V b n).map (fun q => cw (unitsV e f q)))[i]? = some x → w.cell? ⟨gl, i, none⟩ = some (.float .f32 x)) :
    Calls Try.prog 67 #[fmt e f, .slice (some ⟨gl, 0, none⟩) (gxN e f V b n) cap] w fun rv w' => ∃ q c, rv = .returned (.tuple #[.slice q (gxN e f V b n) c, .bool true]) ∧ (OwnL w' q (gxN e f V b n) (gxQ e f V b n) ∧ Past q (gxN e f V b n) (w.heap.size + 1)) ∧ Ext w w' := by
  have hl := gO_len e f b V n
  refine (pa_told e f (gO e f V b n) (by omega) (gO_rows hg hV hb2 hB).2 gl cap w hgl hc).mono ?_
  rintro rv w' ⟨v, rfl, ho, hx⟩
  obtain ⟨q, c, rfl, h1, h2⟩ := own_gx ho
  exact ⟨q, c, rfl, ⟨h1, h2⟩, hx⟩

theorem pa_no (e f : Int) (hg : goodB e f = true) (m gl cap : Nat) (w : World) (hgl : gl < w.heap.size) (h : (∃ L : List Nat, L.length = m ∧ L.length ≤ 1000 ∧ (∀ x, x ∈ L → VBP e f x) ∧ (∃ x, x ∈ L ∧ BadW x) ∧ ∀ i x, L[i]? = some x → w.cell? ⟨gl, i, none⟩ = some (.float .f32 x))) : Calls Try.prog 67 #[fmt e f, .slice (some ⟨gl, 0, none⟩) m cap] w fun rv w' => rv = .returned (.tuple #[.slice none 0 0, .bool false]) ∧ Ext w w' := by
  obtain ⟨L, rfl, h1, h2, h3, h4⟩ := h
  exact pa_bad e f hg L h1 h2 h3 gl cap w hgl h4

set_option maxHeartbeats 3200000 in
theorem iGrowExpansion_no (e f : Int) (V : Nat → Int) (b : Int) (bb n : Nat) (hN : gxB e f V b n = false) (w : World) (h : w.rowIs bb 3 n (fun i => .int .i64 (V i))) : Calls Try.prog 17 #[fmt e f, .slice (some ⟨bb, 0, none⟩) n n, .int .i64 b] w fun rv w' => rv = .returned (.tuple #[.slice none 0 0, .bool false]) ∧ Ext w w' := by
  have hc : ∀ i, i < n → w.cell? ((⟨bb, 0, none⟩ : Addr).add i) = some (.int .i64 (V i)) := fun i hi => by
    have := h.cell hi
    simp only [Addr.add]; split
    · rename_i h0; subst h0; simpa using this
    · simpa using this
  cases hL : lstB e f V n
  · go_enter Try.func17, Try.ntmps17
    go_wp2_with (go_at_call 66; (with_reducible refine (valuesOf_list_no e f V (⟨bb, 0, none⟩ : Addr) n n hL _ (fun i hi => (ext_add (a := (⟨bb, 0, none⟩ : Addr)) (w := w) (by repeat (first | exact Ext.refl _ | with_reducible assumption | apply Ext.alloc | apply Ext.drew | apply Ext.drewN | (refine Ext.setRow ?_ (by first | (simp; done) | (simp; omega) | omega) _) | (refine Ext.setCell ?_ (by first | (simp; done) | (simp; omega) | omega) _) | (refine Ext.trans ?_ (by with_reducible assumption)))) h.lt i).trans (hc i hi)) (by first | exact (row_ext h (by repeat (first | exact Ext.refl _ | with_reducible assumption | apply Ext.alloc | apply Ext.drew | apply Ext.drewN | (refine Ext.setRow ?_ (by first | (simp; done) | (simp; omega) | omega) _) | (refine Ext.setCell ?_ (by first | (simp; done) | (simp; omega) | omega) _) | (refine Ext.trans ?_ (by with_reducible assumption))))).lt | (simp; have := h.lt; omega))).mono ?_); rintro rv w1 ⟨rfl, hb⟩; have hx : Ext w w1 := Ext.trans (by repeat (first | exact Ext.refl _ | with_reducible assumption | apply Ext.alloc | apply Ext.drew | apply Ext.drewN | (refine Ext.setRow ?_ (by first | (simp; done) | (simp; omega) | omega) _) | (refine Ext.setCell ?_ (by first | (simp; done) | (simp; omega) | omega) _) | (refine Ext.trans ?_ (by with_reducible assumption)))) hb; clear hb)
    go_ret2
    exact ⟨rfl, hx⟩
  · obtain ⟨hg, h12, hV⟩ := lst_iff.1 hL
    cases hF : finB e f b
    · have VBN := Lib.hid (fun a w hc ha => valuesOf_list_no e f (fun _ => b) a 1 1 (by rw [lst_one hg]; exact hF) w hc ha)
      clear hF
      go_enter Try.func17, Try.ntmps17
      go_wp2_with (first | (go_at_call 66; (with_reducible refine (valuesOf_list e f V (⟨bb, 0, none⟩ : Addr) n n hL _ (fun i hi => (ext_add (a := (⟨bb, 0, none⟩ : Addr)) (w := w) (by repeat (first | exact Ext.refl _ | with_reducible assumption | apply Ext.alloc | apply Ext.drew | apply Ext.drewN | (refine Ext.setRow ?_ (by first | (simp; done) | (simp; omega) | omega) _) | (refine Ext.setCell ?_ (by first | (simp; done) | (simp; omega) | omega) _) | (refine Ext.trans ?_ (by with_reducible assumption)))) h.lt i).trans (hc i hi)) (by first | exact (row_ext h (by repeat (first | exact Ext.refl _ | with_reducible assumption | apply Ext.alloc | apply Ext.drew | apply Ext.drewN | (refine Ext.setRow ?_ (by first | (simp; done) | (simp; omega) | omega) _) | (refine Ext.setCell ?_ (by first | (simp; done) | (simp; omega) | omega) _) | (refine Ext.trans ?_ (by with_reducible assumption))))).lt | (simp; have := h.lt; omega))).mono ?_); rintro rv w1 ⟨p, cp, rfl, hp, hb⟩; have HP : RowKit.Hid (HPV e f V n p w1) := Lib.hid (fun hn => by obtain ⟨gl, e1, e2, e3, e4⟩ := hp hn; exact ⟨gl, e1, e3, e4⟩); clear hp; have hs : w.heap.size < w1.heap.size := hb.lt (by first | (simp; done) | (simp; omega)); have g0 : w1.cell? ⟨w.heap.size, 0, none⟩ = some (.int .i64 e) := (hb.cells _ _ (by first | (simp; done) | (simp; omega))).trans (by first | (simp; done) | (simp [go_sem, *]; done)); have g1 : w1.cell? ⟨w.heap.size, 1, none⟩ = some (.int .i64 f) := (hb.cells _ _ (by first | (simp; done) | (simp; omega))).trans (by first | (simp; done) | (simp [go_sem, *]; done)); have hx : Ext w w1 := Ext.trans (by repeat (first | exact Ext.refl _ | with_reducible assumption | apply Ext.alloc | apply Ext.drew | apply Ext.drewN | (refine Ext.setRow ?_ (by first | (simp; done) | (simp; omega) | omega) _) | (refine Ext.setCell ?_ (by first | (simp; done) | (simp; omega) | omega) _) | (refine Ext.trans ?_ (by with_reducible assumption)))) hb; clear hb) | (go_at_call 66; refine (VBN.out _ _ ?c0vn ?c1vn).mono ?kvn; (case c0vn => (intro i hi; have hi0 : i = 0 := (by omega); subst hi0; simp [Addr.add])); (case c1vn => (simp; done));  rintro rv w2 ⟨rfl, hb⟩; have ns : w.heap.size < w2.heap.size := hb.lt (by first | with_reducible assumption | omega | (simp; done) | (simp; omega)); have n0 : w2.cell? ⟨w.heap.size, 0, none⟩ = some (.int .i64 e) := (hb.cells _ _ (by first | with_reducible assumption | omega | (simp; done) | (simp; omega))).trans (by first | with_reducible assumption | (simp; done) | (simp; with_reducible assumption) | (rw [cell_alloc_before _ _ _ _ (by omega)]; with_reducible assumption) | (simp [go_sem, *]; done)); have n1 : w2.cell? ⟨w.heap.size, 1, none⟩ = some (.int .i64 f) := (hb.cells _ _ (by first | with_reducible assumption | omega | (simp; done) | (simp; omega))).trans (by first | with_reducible assumption | (simp; done) | (simp; with_reducible assumption) | (rw [cell_alloc_before _ _ _ _ (by omega)]; with_reducible assumption) | (simp [go_sem, *]; done)); (first | (have nx := Ext.trans hx hb; clear hx) | (have nx := Ext.trans (hx.alloc _) hb; clear hx) | (have nx := Ext.trans hx.drew hb; clear hx) | have nx := hb); clear hb; try clear hs; try clear g0; try clear g1; have hx := nx; clear nx; have hs := ns; clear ns; have g0 := n0; clear n0; have g1 := n1; clear n1))
      go_ret2
      exact ⟨rfl, (by repeat (first | exact Ext.refl _ | with_reducible assumption | apply Ext.alloc | apply Ext.drew | apply Ext.drewN | (refine Ext.setRow ?_ (by first | (simp; done) | (simp; omega) | omega) _) | (refine Ext.setCell ?_ (by first | (simp; done) | (simp; omega) | omega) _) | (refine Ext.trans ?_ (by with_reducible assumption))))⟩
    · have hB : grB e f V b n = false := by unfold gxB at hN; rw [hL, hF] at hN; simpa using hN
      have VBY := Lib.hid (fun a w hc ha => valuesOf_list e f (fun _ => b) a 1 1 (by rw [lst_one hg]; exact hF) w hc ha)
      have GA := Lib.hid (fun cap p w hp => grow_no e f V b n cap p hg (by omega) hV hF hB w hp)
      have PY := Lib.hid (fun m gl cap w hgl h => pa_no e f hg m gl cap w hgl h)
      clear hF hB hN
      go_enter Try.func17, Try.ntmps17
      go_wp2_with (first | (go_at_call 66; (with_reducible refine (valuesOf_list e f V (⟨bb, 0, none⟩ : Addr) n n hL _ (fun i hi => (ext_add (a := (⟨bb, 0, none⟩ : Addr)) (w := w) (by repeat (first | exact Ext.refl _ | with_reducible assumption | apply Ext.alloc | apply Ext.drew | apply Ext.drewN | (refine Ext.setRow ?_ (by first | (simp; done) | (simp; omega) | omega) _) | (refine Ext.setCell ?_ (by first | (simp; done) | (simp; omega) | omega) _) | (refine Ext.trans ?_ (by with_reducible assumption)))) h.lt i).trans (hc i hi)) (by first | exact (row_ext h (by repeat (first | exact Ext.refl _ | with_reducible assumption | apply Ext.alloc | apply Ext.drew | apply Ext.drewN | (refine Ext.setRow ?_ (by first | (simp; done) | (simp; omega) | omega) _) | (refine Ext.setCell ?_ (by first | (simp; done) | (simp; omega) | omega) _) | (refine Ext.trans ?_ (by with_reducible assumption))))).lt | (simp; have := h.lt; omega))).mono ?_); rintro rv w1 ⟨p, cp, rfl, hp, hb⟩; have HP : RowKit.Hid (HPV e f V n p w1) := Lib.hid (fun hn => by obtain ⟨gl, e1, e2, e3, e4⟩ := hp hn; exact ⟨gl, e1, e3, e4⟩); clear hp; have hs : w.heap.size < w1.heap.size := hb.lt (by first | (simp; done) | (simp; omega)); have g0 : w1.cell? ⟨w.heap.size, 0, none⟩ = some (.int .i64 e) := (hb.cells _ _ (by first | (simp; done) | (simp; omega))).trans (by first | (simp; done) | (simp [go_sem, *]; done)); have g1 : w1.cell? ⟨w.heap.size, 1, none⟩ = some (.int .i64 f) := (hb.cells _ _ (by first | (simp; done) | (simp; omega))).trans (by first | (simp; done) | (simp [go_sem, *]; done)); have hx : Ext w w1 := Ext.trans (by repeat (first | exact Ext.refl _ | with_reducible assumption | apply Ext.alloc | apply Ext.drew | apply Ext.drewN | (refine Ext.setRow ?_ (by first | (simp; done) | (simp; omega) | omega) _) | (refine Ext.setCell ?_ (by first | (simp; done) | (simp; omega) | omega) _) | (refine Ext.trans ?_ (by with_reducible assumption)))) hb; clear hb) | (go_at_call 66; refine (VBY.out _ _ ?c0vy ?c1vy).mono ?kvy; (case c0vy => (intro i hi; have hi0 : i = 0 := (by omega); subst hi0; simp [Addr.add])); (case c1vy => (simp; done));  rintro rv w2 ⟨p2, cp2, rfl, hp2, hb⟩; obtain ⟨gl2, rfl, q1, q2, q3⟩ := hp2 (by decide); clear hp2; have c2 := q3 0 (by decide); clear q3; rw [int_cw] at c2; have HG2 := Lib.hid q2; clear q1 q2; have HP2 := Lib.hid (HP.out.ext (Ext.trans (by repeat (first | exact Ext.refl _ | with_reducible assumption | apply Ext.alloc | apply Ext.drew | apply Ext.drewN | (refine Ext.setRow ?_ (by first | (simp; done) | (simp; omega) | omega) _) | (refine Ext.setCell ?_ (by first | (simp; done) | (simp; omega) | omega) _) | (refine Ext.trans ?_ (by with_reducible assumption)))) hb)); have ns : w.heap.size < w2.heap.size := hb.lt (by first | with_reducible assumption | omega | (simp; done) | (simp; omega)); have n0 : w2.cell? ⟨w.heap.size, 0, none⟩ = some (.int .i64 e) := (hb.cells _ _ (by first | with_reducible assumption | omega | (simp; done) | (simp; omega))).trans (by first | with_reducible assumption | (simp; done) | (simp; with_reducible assumption) | (rw [cell_alloc_before _ _ _ _ (by omega)]; with_reducible assumption) | (simp [go_sem, *]; done)); have n1 : w2.cell? ⟨w.heap.size, 1, none⟩ = some (.int .i64 f) := (hb.cells _ _ (by first | with_reducible assumption | omega | (simp; done) | (simp; omega))).trans (by first | with_reducible assumption | (simp; done) | (simp; with_reducible assumption) | (rw [cell_alloc_before _ _ _ _ (by omega)]; with_reducible assumption) | (simp [go_sem, *]; done)); (first | (have nx := Ext.trans hx hb; clear hx) | (have nx := Ext.trans (hx.alloc _) hb; clear hx) | (have nx := Ext.trans hx.drew hb; clear hx) | have nx := hb); clear hb; try clear hs; try clear g0; try clear g1; have hx := nx; clear nx; have hs := ns; clear ns; have g0 := n0; clear n0; have g1 := n1; clear n1))
      have hs2 : max w.heap.size gl2 < w2.heap.size := by have := HG2.out; omega
      clear hs
      have hs := hs2
      clear hs2
      generalize hcB : cw (unitsV e f b) = cB at *
      clear hcB
      go_region_held3 (fun w' => w'.cell? ⟨w.heap.size, 0, none⟩ = some (.int .i64 e) ∧ w'.cell? ⟨w.heap.size, 1, none⟩ = some (.int .i64 f) ∧ w'.cell? ⟨gl2, 0, none⟩ = some (.float .f32 cB) ∧ max w.heap.size gl2 < w'.heap.size) ((refine ⟨?_, ?_, ?_, ?_⟩ <;> first | with_reducible assumption | ((repeat first | rw [cell_set_far _ _ _ _ _ _ (by omega)] | rw [cell_alloc_before _ _ _ _ (by omega)] | rw [cell_alloc_drew _ _ _ _ (by omega)] | rw [cell_drew]); with_reducible assumption) | ((rw [cell_setRow_far _ _ _ _ _ (by omega)]); with_reducible assumption) | ((rw [setRow_size]); with_reducible assumption) | (simp; done) | (simp [World.setCell]; first | done | omega) | (simp [go_sem, World.cell?_alloc_past, World.cell?_setCell_far, *]; done))) ((first | (go_at_call 68; refine (GA.out _ _ _ (hpv_cw (HP2.out.ext (by repeat (first | exact Ext.refl _ | with_reducible assumption | apply Ext.alloc | apply Ext.drew | apply Ext.drewN | (refine Ext.setRow ?_ (by first | (simp; done) | (simp; omega) | omega) _) | (refine Ext.setCell ?_ (by first | (simp; done) | (simp; omega) | omega) _) | (refine Ext.trans ?_ (by with_reducible assumption))))))).mono ?_; rintro rv w3 ⟨m3, gl3, c3, rfl, q2, q1, hb⟩; have HL3 := Lib.hid q1; have HC3 := Lib.hid q2; clear q1 q2; have ns : max w.heap.size gl2 < w3.heap.size := hb.lt (by first | with_reducible assumption | omega | (simp; done) | (simp; omega)); have n0 : w3.cell? ⟨w.heap.size, 0, none⟩ = some (.int .i64 e) := (hb.cells _ _ (by first | with_reducible assumption | omega | (simp; done) | (simp; omega))).trans (by first | with_reducible assumption | (simp; done) | (simp; with_reducible assumption) | (rw [cell_alloc_before _ _ _ _ (by omega)]; with_reducible assumption) | (simp [go_sem, *]; done)); have n1 : w3.cell? ⟨w.heap.size, 1, none⟩ = some (.int .i64 f) := (hb.cells _ _ (by first | with_reducible assumption | omega | (simp; done) | (simp; omega))).trans (by first | with_reducible assumption | (simp; done) | (simp; with_reducible assumption) | (rw [cell_alloc_before _ _ _ _ (by omega)]; with_reducible assumption) | (simp [go_sem, *]; done)); have n2 : w3.cell? ⟨gl2, 0, none⟩ = some (.float .f32 cB) := (hb.cells _ _ (by first | with_reducible assumption | omega | (simp; done) | (simp; omega))).trans (by first | with_reducible assumption | (simp; done) | (simp; with_reducible assumption) | (rw [cell_alloc_before _ _ _ _ (by omega)]; with_reducible assumption) | (simp [go_sem, *]; done)); (first | (have nx := Ext.trans hx hb; clear hx) | (have nx := Ext.trans (hx.alloc _) hb; clear hx) | (have nx := Ext.trans hx.drew hb; clear hx) | have nx := hb); clear hb; try clear hs; try clear g0; try clear g1; try clear g2; have hx := nx; clear nx; have hs := ns; clear ns; have g0 := n0; clear n0; have g1 := n1; clear n1; have g2 := n2; clear n2) | (go_at_call 67; refine (PY.out _ _ _ _ HL3.out HC3.out).mono ?_; rintro rv w4 ⟨rfl, hb⟩; have ns : max w.heap.size gl2 < w4.heap.size := hb.lt (by first | with_reducible assumption | omega | (simp; done) | (simp; omega)); have n0 : w4.cell? ⟨w.heap.size, 0, none⟩ = some (.int .i64 e) := (hb.cells _ _ (by first | with_reducible assumption | omega | (simp; done) | (simp; omega))).trans (by first | with_reducible assumption | (simp; done) | (simp; with_reducible assumption) | (rw [cell_alloc_before _ _ _ _ (by omega)]; with_reducible assumption) | (simp [go_sem, *]; done)); have n1 : w4.cell? ⟨w.heap.size, 1, none⟩ = some (.int .i64 f) := (hb.cells _ _ (by first | with_reducible assumption | omega | (simp; done) | (simp; omega))).trans (by first | with_reducible assumption | (simp; done) | (simp; with_reducible assumption) | (rw [cell_alloc_before _ _ _ _ (by omega)]; with_reducible assumption) | (simp [go_sem, *]; done)); have n2 : w4.cell? ⟨gl2, 0, none⟩ = some (.float .f32 cB) := (hb.cells _ _ (by first | with_reducible assumption | omega | (simp; done) | (simp; omega))).trans (by first | with_reducible assumption | (simp; done) | (simp; with_reducible assumption) | (rw [cell_alloc_before _ _ _ _ (by omega)]; with_reducible assumption) | (simp [go_sem, *]; done)); (first | (have nx := Ext.trans hx hb; clear hx) | (have nx := Ext.trans (hx.alloc _) hb; clear hx) | (have nx := Ext.trans hx.drew hb; clear hx) | have nx := hb); clear hb; try clear hs; try clear g0; try clear g1; try clear g2; have hx := nx; clear nx; have hs := ns; clear ns; have g0 := n0; clear n0; have g1 := n1; clear n1; have g2 := n2; clear n2) | fail))
      all_goals (try go_wp2_with fail)
      all_goals go_ret2
      all_goals exact ⟨rfl, (by repeat (first | exact Ext.refl _ | with_reducible assumption | apply Ext.alloc | apply Ext.drew | apply Ext.drewN | (refine Ext.setRow ?_ (by first | (simp; done) | (simp; omega) | omega) _) | (refine Ext.setCell ?_ (by first | (simp; done) | (simp; omega) | omega) _) | (refine Ext.trans ?_ (by with_reducible assumption))))⟩

set_option maxHeartbeats 3200000 in
theorem iGrowExpansion_yes (e f : Int) (V : Nat → Int) (b : Int) (bb n : Nat) (hN : gxB e f V b n = true) (w : World) (h : w.rowIs bb 3 n (fun i => .int .i64 (V i))) :
    Calls Try.prog 17 #[fmt e f, .slice (some ⟨bb, 0, none⟩) n n, .int .i64 b] w fun rv w' => ∃ q c, rv = .returned (.tuple #[.slice q (gxN e f V b n) c, .bool true]) ∧ OwnL w' q (gxN e f V b n) (gxQ e f V b n) ∧ Past q (gxN e f V b n) w.heap.size ∧ Ext w w' := by
  have hc : ∀ i, i < n → w.cell? ((⟨bb, 0, none⟩ : Addr).add i) = some (.int .i64 (V i)) := fun i hi => by
    have := h.cell hi
    simp only [Addr.add]; split
    · rename_i h0; subst h0; simpa using this
    · simpa using this
  unfold gxB at hN
  rw [Bool.and_eq_true, Bool.and_eq_true] at hN
  obtain ⟨hL, hF, hB⟩ := hN
  obtain ⟨hg, h12, hV⟩ := lst_iff.1 hL
  have VBY := Lib.hid (fun a w hc ha => valuesOf_list e f (fun _ => b) a 1 1 (by rw [lst_one hg]; exact hF) w hc ha)
  have GA : RowKit.Hid (∀ cap p w, _ → Calls Try.prog 68 #[fmt e f, .slice p n cap, .float .f32 (cw (unitsV e f b))] w fun rv w' => ∃ gl c, rv = .returned (.slice (some ⟨gl, 0, none⟩) (gxN e f V b n) c) ∧ gl < w'.heap.size ∧ (∀ i x, ((gO e f V b n).map (fun q => cw (unitsV e f q)))[i]? = some x → w'.cell? ⟨gl, i, none⟩ = some (.float .f32 x)) ∧ Ext w w') := Lib.hid (fun cap p w hp => grow_yes e f V b n cap p hg (by omega) hV hF hB w hp)
  have PY := Lib.hid (fun gl cap w hgl hc => pa_gx e f V b n hg (by omega) hV hF hB gl cap w hgl hc)
  clear hF hB
  generalize gxN e f V b n = m at *
  generalize gxQ e f V b n = Q at *
  go_enter Try.func17, Try.ntmps17
  go_wp2_with (first | (go_at_call 66; (with_reducible refine (valuesOf_list e f V (⟨bb, 0, none⟩ : Addr) n n hL _ (fun i hi => (ext_add (a := (⟨bb, 0, none⟩ : Addr)) (w := w) (by repeat (first | exact Ext.refl _ | with_reducible assumption | apply Ext.alloc | apply Ext.drew | apply Ext.drewN | (refine Ext.setRow ?_ (by first | (simp; done) | (simp; omega) | omega) _) | (refine Ext.setCell ?_ (by first | (simp; done) | (simp; omega) | omega) _) | (refine Ext.trans ?_ (by with_reducible assumption)))) h.lt i).trans (hc i hi)) (by first | exact (row_ext h (by repeat (first | exact Ext.refl _ | with_reducible assumption | apply Ext.alloc | apply Ext.drew | apply Ext.drewN | (refine Ext.setRow ?_ (by first | (simp; done) | (simp; omega) | omega) _) | (refine Ext.setCell ?_ (by first | (simp; done) | (simp; omega) | omega) _) | (refine Ext.trans ?_ (by with_reducible assumption))))).lt | (simp; have := h.lt; omega))).mono ?_); rintro rv w1 ⟨p, cp, rfl, hp, hb⟩; have HP : RowKit.Hid (HPV e f V n p w1) := Lib.hid (fun hn => by obtain ⟨gl, e1, e2, e3, e4⟩ := hp hn; exact ⟨gl, e1, e3, e4⟩); clear hp; have hs : w.heap.size < w1.heap.size := hb.lt (by first | (simp; done) | (simp; omega)); have g0 : w1.cell? ⟨w.heap.size, 0, none⟩ = some (.int .i64 e) := (hb.cells _ _ (by first | (simp; done) | (simp; omega))).trans (by first | (simp; done) | (simp [go_sem, *]; done)); have g1 : w1.cell? ⟨w.heap.size, 1, none⟩ = some (.int .i64 f) := (hb.cells _ _ (by first | (simp; done) | (simp; omega))).trans (by first | (simp; done) | (simp [go_sem, *]; done)); have hx : Ext w w1 := Ext.trans (by repeat (first | exact Ext.refl _ | with_reducible assumption | apply Ext.alloc | apply Ext.drew | apply Ext.drewN | (refine Ext.setRow ?_ (by first | (simp; done) | (simp; omega) | omega) _) | (refine Ext.setCell ?_ (by first | (simp; done) | (simp; omega) | omega) _) | (refine Ext.trans ?_ (by with_reducible assumption)))) hb; clear hb) | (go_at_call 66; refine (VBY.out _ _ ?c0vy ?c1vy).mono ?kvy; (case c0vy => (intro i hi; have hi0 : i = 0 := (by omega); subst hi0; simp [Addr.add])); (case c1vy => (simp; done));  rintro rv w2 ⟨p2, cp2, rfl, hp2, hb⟩; obtain ⟨gl2, rfl, q1, q2, q3⟩ := hp2 (by decide); clear hp2; have c2 := q3 0 (by decide); clear q3; rw [int_cw] at c2; have HG2 := Lib.hid q2; clear q1 q2; have HP2 := Lib.hid (HP.out.ext (Ext.trans (by repeat (first | exact Ext.refl _ | with_reducible assumption | apply Ext.alloc | apply Ext.drew | apply Ext.drewN | (refine Ext.setRow ?_ (by first | (simp; done) | (simp; omega) | omega) _) | (refine Ext.setCell ?_ (by first | (simp; done) | (simp; omega) | omega) _) | (refine Ext.trans ?_ (by with_reducible assumption)))) hb)); have ns : w.heap.size < w2.heap.size := hb.lt (by first | with_reducible assumption | omega | (simp; done) | (simp; omega)); have n0 : w2.cell? ⟨w.heap.size, 0, none⟩ = some (.int .i64 e) := (hb.cells _ _ (by first | with_reducible assumption | omega | (simp; done) | (simp; omega))).trans (by first | with_reducible assumption | (simp; done) | (simp; with_reducible assumption) | (rw [cell_alloc_before _ _ _ _ (by omega)]; with_reducible assumption) | (simp [go_sem, *]; done)); have n1 : w2.cell? ⟨w.heap.size, 1, none⟩ = some (.int .i64 f) := (hb.cells _ _ (by first | with_reducible assumption | omega | (simp; done) | (simp; omega))).trans (by first | with_reducible assumption | (simp; done) | (simp; with_reducible assumption) | (rw [cell_alloc_before _ _ _ _ (by omega)]; with_reducible assumption) | (simp [go_sem, *]; done)); (first | (have nx := Ext.trans hx hb; clear hx) | (have nx := Ext.trans (hx.alloc _) hb; clear hx) | (have nx := Ext.trans hx.drew hb; clear hx) | have nx := hb); clear hb; try clear hs; try clear g0; try clear g1; have hx := nx; clear nx; have hs := ns; clear ns; have g0 := n0; clear n0; have g1 := n1; clear n1))
  have hs2 : max w.heap.size gl2 < w2.heap.size := by have := HG2.out; omega
  clear hs
  have hs := hs2
  clear hs2
  generalize hcB : cw (unitsV e f b) = cB at *
  clear hcB
  go_region_held3 (fun w' => w'.cell? ⟨w.heap.size, 0, none⟩ = some (.int .i64 e) ∧ w'.cell? ⟨w.heap.size, 1, none⟩ = some (.int .i64 f) ∧ w'.cell? ⟨gl2, 0, none⟩ = some (.float .f32 cB) ∧ max w.heap.size gl2 < w'.heap.size) ((refine ⟨?_, ?_, ?_, ?_⟩ <;> first | with_reducible assumption | ((repeat first | rw [cell_set_far _ _ _ _ _ _ (by omega)] | rw [cell_alloc_before _ _ _ _ (by omega)] | rw [cell_alloc_drew _ _ _ _ (by omega)] | rw [cell_drew]); with_reducible assumption) | ((rw [cell_setRow_far _ _ _ _ _ (by omega)]); with_reducible assumption) | ((rw [setRow_size]); with_reducible assumption) | (simp; done) | (simp [World.setCell]; first | done | omega) | (simp [go_sem, World.cell?_alloc_past, World.cell?_setCell_far, *]; done))) ((first | (go_at_call 68; refine (GA.out _ _ _ (hpv_cw (HP2.out.ext (by repeat (first | exact Ext.refl _ | with_reducible assumption | apply Ext.alloc | apply Ext.drew | apply Ext.drewN | (refine Ext.setRow ?_ (by first | (simp; done) | (simp; omega) | omega) _) | (refine Ext.setCell ?_ (by first | (simp; done) | (simp; omega) | omega) _) | (refine Ext.trans ?_ (by with_reducible assumption))))))).mono ?_; rintro rv w3 ⟨gl3, c3, rfl, q1, q2, hb⟩; have HL3 := Lib.hid q1; have HC3 := Lib.hid q2; clear q1 q2; have ns : max w.heap.size gl2 < w3.heap.size := hb.lt (by first | with_reducible assumption | omega | (simp; done) | (simp; omega)); have n0 : w3.cell? ⟨w.heap.size, 0, none⟩ = some (.int .i64 e) := (hb.cells _ _ (by first | with_reducible assumption | omega | (simp; done) | (simp; omega))).trans (by first | with_reducible assumption | (simp; done) | (simp; with_reducible assumption) | (rw [cell_alloc_before _ _ _ _ (by omega)]; with_reducible assumption) | (simp [go_sem, *]; done)); have n1 : w3.cell? ⟨w.heap.size, 1, none⟩ = some (.int .i64 f) := (hb.cells _ _ (by first | with_reducible assumption | omega | (simp; done) | (simp; omega))).trans (by first | with_reducible assumption | (simp; done) | (simp; with_reducible assumption) | (rw [cell_alloc_before _ _ _ _ (by omega)]; with_reducible assumption) | (simp [go_sem, *]; done)); have n2 : w3.cell? ⟨gl2, 0, none⟩ = some (.float .f32 cB) := (hb.cells _ _ (by first | with_reducible assumption | omega | (simp; done) | (simp; omega))).trans (by first | with_reducible assumption | (simp; done) | (simp; with_reducible assumption) | (rw [cell_alloc_before _ _ _ _ (by omega)]; with_reducible assumption) | (simp [go_sem, *]; done)); (first | (have nx := Ext.trans hx hb; clear hx) | (have nx := Ext.trans (hx.alloc _) hb; clear hx) | (have nx := Ext.trans hx.drew hb; clear hx) | have nx := hb); clear hb; try clear hs; try clear g0; try clear g1; try clear g2; have hx := nx; clear nx; have hs := ns; clear ns; have g0 := n0; clear n0; have g1 := n1; clear n1; have g2 := n2; clear n2) | (go_at_call 67; refine (PY.out _ _ _ HL3.out HC3.out).mono ?_; rintro rv w4 ⟨q, c, rfl, hq, hb⟩; have HQ := Lib.hid hq.1; have HQ2 := Lib.hid (hq.2.le (B2 := w.heap.size) (by omega)); clear hq; have ns : max w.heap.size gl2 < w4.heap.size := hb.lt (by first | with_reducible assumption | omega | (simp; done) | (simp; omega)); have n0 : w4.cell? ⟨w.heap.size, 0, none⟩ = some (.int .i64 e) := (hb.cells _ _ (by first | with_reducible assumption | omega | (simp; done) | (simp; omega))).trans (by first | with_reducible assumption | (simp; done) | (simp; with_reducible assumption) | (rw [cell_alloc_before _ _ _ _ (by omega)]; with_reducible assumption) | (simp [go_sem, *]; done)); have n1 : w4.cell? ⟨w.heap.size, 1, none⟩ = some (.int .i64 f) := (hb.cells _ _ (by first | with_reducible assumption | omega | (simp; done) | (simp; omega))).trans (by first | with_reducible assumption | (simp; done) | (simp; with_reducible assumption) | (rw [cell_alloc_before _ _ _ _ (by omega)]; with_reducible assumption) | (simp [go_sem, *]; done)); have n2 : w4.cell? ⟨gl2, 0, none⟩ = some (.float .f32 cB) := (hb.cells _ _ (by first | with_reducible assumption | omega | (simp; done) | (simp; omega))).trans (by first | with_reducible assumption | (simp; done) | (simp; with_reducible assumption) | (rw [cell_alloc_before _ _ _ _ (by omega)]; with_reducible assumption) | (simp [go_sem, *]; done)); (first | (have nx := Ext.trans hx hb; clear hx) | (have nx := Ext.trans (hx.alloc _) hb; clear hx) | (have nx := Ext.trans hx.drew hb; clear hx) | have nx := hb); clear hb; try clear hs; try clear g0; try clear g1; try clear g2; have hx := nx; clear nx; have hs := ns; clear ns; have g0 := n0; clear n0; have g1 := n1; clear n1; have g2 := n2; clear n2) | fail))
  all_goals (try go_wp2_with fail)
  all_goals go_ret2
  all_goals exact ⟨q, c, rfl, HQ.out, HQ2.out, (by repeat (first | exact Ext.refl _ | with_reducible assumption | apply Ext.alloc | apply Ext.drew | apply Ext.drewN | (refine Ext.setRow ?_ (by first | (simp; done) | (simp; omega) | omega) _) | (refine Ext.setCell ?_ (by first | (simp; done) | (simp; omega) | omega) _) | (refine Ext.trans ?_ (by with_reducible assumption))))⟩
end Go.Proofs.Ytdagfocpbnamfaa

namespace Go.Proofs.Ytdagfocpbnamfaa
open Go Go.RowKit
set_option linter.unusedSimpArgs false
set_option linter.unusedVariables false
set_option maxRecDepth 100000

/-- How many patterns GrowExpansion answers. -/
noncomputable def gxM (e f : Int) (V : Nat → Int) (b : Int) (n : Nat) : Nat := if gxB e f V b n = true then gxN e f V b n else 0

theorem gxM_len (e f b : Int) (V : Nat → Int) (n : Nat) : gxM e f V b n ≤ 13 := by
  unfold gxM
  split
  · rename_i h
    unfold gxB at h
    rw [Bool.and_eq_true] at h
    have := (lst_iff.1 h.1).2.1
    have := gO_len e f b V n
    unfold gxN
    omega
  · omega

theorem sGrowExpansion_all (e f : Int) (V : Nat → Int) (b : Int) (bb n : Nat) (w : World) (h : w.rowIs bb 3 n (fun i => .int .i64 (V i))) : Calls Try.prog 14 #[fmt e f, .slice (some ⟨bb, 0, none⟩) n n, .int .i64 b] w fun rv w' => ∃ q c, rv = .returned (.tuple #[.slice q (gxM e f V b n) c, .bool (gxB e f V b n)]) ∧ OwnL w' q (gxM e f V b n) (gxQ e f V b n) ∧ Past q (gxM e f V b n) w.heap.size ∧ Ext w w' := by
  unfold gxM
  cases hB : gxB e f V b n
  · refine (sGrowExpansion_no e f V b bb n hB w h).mono ?_
    rintro rv w' ⟨rfl, hx⟩
    exact ⟨none, 0, rfl, own_nil _ _, past_nil _, hx⟩
  · refine (sGrowExpansion_yes e f V b bb n hB w h).mono ?_
    rintro rv w' ⟨q, c, rfl, h1, h2, hx⟩
    exact ⟨q, c, rfl, h1, h2, hx⟩

theorem iGrowExpansion_all (e f : Int) (V : Nat → Int) (b : Int) (bb n : Nat) (w : World) (h : w.rowIs bb 3 n (fun i => .int .i64 (V i))) : Calls Try.prog 17 #[fmt e f, .slice (some ⟨bb, 0, none⟩) n n, .int .i64 b] w fun rv w' => ∃ q c, rv = .returned (.tuple #[.slice q (gxM e f V b n) c, .bool (gxB e f V b n)]) ∧ OwnL w' q (gxM e f V b n) (gxQ e f V b n) ∧ Past q (gxM e f V b n) w.heap.size ∧ Ext w w' := by
  unfold gxM
  cases hB : gxB e f V b n
  · refine (iGrowExpansion_no e f V b bb n hB w h).mono ?_
    rintro rv w' ⟨rfl, hx⟩
    exact ⟨none, 0, rfl, own_nil _ _, past_nil _, hx⟩
  · refine (iGrowExpansion_yes e f V b bb n hB w h).mono ?_
    rintro rv w' ⟨q, c, rfl, h1, h2, hx⟩
    exact ⟨q, c, rfl, h1, h2, hx⟩

set_option maxHeartbeats 6400000 in
theorem wGrowExpansion (e f : Int) (p : Option Addr) (n cap : Nat) (V : Nat → Int) (b : Int) (w : World) (hold : HoldsL w p n V) : Calls Try.prog 3 #[fmt e f, .slice p n cap, .int .i64 b] w fun rv w' => rv = .returned (.bool true) ∧ Ext w w' := by
  by_cases hn : n ≤ 1048576
  · have h12 : ¬ (1048576 : Int) < (n : Int) := by omega
    have SA := Lib.hid (fun bb w h => sGrowExpansion_all e f V b bb n w h)
    have IA := Lib.hid (fun bb w h => iGrowExpansion_all e f V b bb n w h)
    have hm : gxM e f V b n ≤ 1048576 := by have := gxM_len e f b V n; omega
    generalize gxM e f V b n = m at *
    generalize gxQ e f V b n = Q at *
    generalize gxB e f V b n = B at *
    have EQM := Lib.hid (fun p q c1 c2 w hp hq => eqIntS_own p q m c1 c2 Q hm w hp hq)
    have EQN := Lib.hid (fun p q c1 c2 w hp hq => eqIntS_own p q n c1 c2 V hn w hp hq)
    have MKM := Lib.hid (fun p c w hp => markIntS_own p m c Q hm w hp)
    have MKN := Lib.hid (fun p c w hp => markIntS_own p n c V hn w hp)
    have HLM := Lib.hid (fun p c w hp => heldIntS_own p m c hm w hp)
    obtain ⟨M, hM, hM0⟩ : ∃ M : Int, M = 1 + (m : Int) ∧ ¬ M < 0 := ⟨_, rfl, by omega⟩
    obtain ⟨N, hN, hN0⟩ : ∃ N : Int, N = 1 + (n : Int) ∧ ¬ N < 0 := ⟨_, rfl, by omega⟩
    rw [← hM] at MKM HLM
    rw [← hN] at MKN
    clear hM hN hm
    cases B
    all_goals
      go_enter Try.func3, Try.ntmps3
      go_wp2_with fail
      go_at_call 15
      refine (toFormat_any e f _).mono ?_
      rintro rv w1 ⟨rfl, hb⟩
      have s1 : w.heap.size < w1.heap.size := hb.lt (by simp)
      have a1 : w1.cell? ⟨w.heap.size, 0, none⟩ = some (.int .i64 e) := (hb.cells _ _ (by simp)).trans (by simp)
      have b1 : w1.cell? ⟨w.heap.size, 1, none⟩ = some (.int .i64 f) := (hb.cells _ _ (by simp)).trans (by simp [go_sem])
      have x1 : Ext w w1 := Ext.trans (Ext.new _ _) hb
      clear hb
      go_wp2_with fail
      go_at_call 16
      refine (toIntS_any p n cap V hn _ (hold.ext x1)).mono ?_
      rintro rv w2 ⟨t2, rfl, _, r2, hb⟩
      have s2 : w.heap.size < w2.heap.size := hb.lt s1
      have a2 : w2.cell? ⟨w.heap.size, 0, none⟩ = some (.int .i64 e) := (hb.cells _ _ s1).trans a1
      have b2 : w2.cell? ⟨w.heap.size, 1, none⟩ = some (.int .i64 f) := (hb.cells _ _ s1).trans b1
      have x2 : Ext w w2 := Ext.trans x1 hb
      clear hb a1 b1 x1 
      go_wp2_with fail
      go_at_call 14
      refine (SA.out _ _ r2).mono ?_
      rintro rv w3 ⟨pS, cS, rfl, S3, _, hb⟩
      have s3 : w.heap.size < w3.heap.size := hb.lt s2
      have a3 : w3.cell? ⟨w.heap.size, 0, none⟩ = some (.int .i64 e) := (hb.cells _ _ s2).trans a2
      have b3 : w3.cell? ⟨w.heap.size, 1, none⟩ = some (.int .i64 f) := (hb.cells _ _ s2).trans b2
      have x3 : Ext w w3 := Ext.trans x2 hb
      clear r2
      clear hb a2 b2 x2 
      go_wp2_with fail
      go_at_call 16
      refine (toIntS_any p n cap V hn _ (hold.ext x3)).mono ?_
      rintro rv w4 ⟨t4, rfl, q4, r4, hb⟩
      have s4 : w.heap.size < w4.heap.size := hb.lt s3
      have a4 : w4.cell? ⟨w.heap.size, 0, none⟩ = some (.int .i64 e) := (hb.cells _ _ s3).trans a3
      have b4 : w4.cell? ⟨w.heap.size, 1, none⟩ = some (.int .i64 f) := (hb.cells _ _ s3).trans b3
      have x4 : Ext w w4 := Ext.trans x3 hb
      have S4 := S3.ext hb
      have S0 := S3
      have X4 := row_own r4
      clear hb a3 b3 x3 S3
      go_wp2_with fail
      go_at_call 15
      refine (toFormat_any e f _).mono ?_
      rintro rv w5 ⟨rfl, hb⟩
      have s5 : w.heap.size < w5.heap.size := hb.lt s4
      have a5 : w5.cell? ⟨w.heap.size, 0, none⟩ = some (.int .i64 e) := (hb.cells _ _ s4).trans a4
      have b5 : w5.cell? ⟨w.heap.size, 1, none⟩ = some (.int .i64 f) := (hb.cells _ _ s4).trans b4
      have x5 : Ext w w5 := Ext.trans x4 hb
      have S5 := S4.ext hb
      have X5 := X4.ext hb
      have r5 := row_ext r4 hb
      clear r4
      clear hb a4 b4 x4 S4 X4
      go_wp2_with fail
      go_at_call 17
      refine (IA.out _ _ r5).mono ?_
      rintro rv w6 ⟨pG, cG, rfl, G6, P6, hb⟩
      have s6 : w.heap.size < w6.heap.size := hb.lt s5
      have a6 : w6.cell? ⟨w.heap.size, 0, none⟩ = some (.int .i64 e) := (hb.cells _ _ s5).trans a5
      have b6 : w6.cell? ⟨w.heap.size, 1, none⟩ = some (.int .i64 f) := (hb.cells _ _ s5).trans b5
      have x6 : Ext w w6 := Ext.trans x5 hb
      have S6 := S5.ext hb
      have X6 := X5.ext hb
      have z5 := r5.lt
      clear r5
      clear hb a5 b5 x5 S5 X5
      go_wp2_with fail
      go_at_call 18
      refine (EQM.out _ _ _ _ _ G6 S6).mono ?_
      rintro rv w7 ⟨rfl, hb⟩
      have s7 : w.heap.size < w7.heap.size := hb.lt s6
      have a7 : w7.cell? ⟨w.heap.size, 0, none⟩ = some (.int .i64 e) := (hb.cells _ _ s6).trans a6
      have b7 : w7.cell? ⟨w.heap.size, 1, none⟩ = some (.int .i64 f) := (hb.cells _ _ s6).trans b6
      have x7 : Ext w w7 := Ext.trans x6 hb
      have S7 := S6.ext hb
      have X7 := X6.ext hb
      have G7 := G6.ext hb
      clear hb a6 b6 x6 S6 X6 G6
      go_wp2_with fail
      go_at_call 16
      refine (toIntS_any p n cap V hn _ (hold.ext x7)).mono ?_
      rintro rv w8 ⟨t8, rfl, _, r8, hb⟩
      have s8 : w.heap.size < w8.heap.size := hb.lt s7
      have a8 : w8.cell? ⟨w.heap.size, 0, none⟩ = some (.int .i64 e) := (hb.cells _ _ s7).trans a7
      have b8 : w8.cell? ⟨w.heap.size, 1, none⟩ = some (.int .i64 f) := (hb.cells _ _ s7).trans b7
      have x8 : Ext w w8 := Ext.trans x7 hb
      have S8 := S7.ext hb
      have X8 := X7.ext hb
      have G8 := G7.ext hb
      have T8 := row_own r8
      clear r8
      clear hb a7 b7 x7 S7 X7 G7
      go_wp2_with fail
      go_at_call 18
      refine (EQN.out _ _ _ _ _ X8 T8).mono ?_
      rintro rv w9 ⟨rfl, hb⟩
      have s9 : w.heap.size < w9.heap.size := hb.lt s8
      have a9 : w9.cell? ⟨w.heap.size, 0, none⟩ = some (.int .i64 e) := (hb.cells _ _ s8).trans a8
      have b9 : w9.cell? ⟨w.heap.size, 1, none⟩ = some (.int .i64 f) := (hb.cells _ _ s8).trans b8
      have x9 : Ext w w9 := Ext.trans x8 hb
      have S9 := S8.ext hb
      have X9 := X8.ext hb
      have G9 := G8.ext hb
      clear T8
      clear hb a8 b8 x8 S8 X8 G8
      go_wp2_with fail
      go_at_call 19
      refine (MKN.out _ _ _ X9).mono ?_
      rintro rv w10 ⟨rfl, hm⟩
      have PX : Past (some (⟨t4, 0, none⟩ : Addr)) n (w.heap.size + 1) := fun _ b hp => (by cases hp; omega)
      have s10 : w.heap.size < w10.heap.size := by rw [hm.size]; exact s9
      have a10 : w10.cell? ⟨w.heap.size, 0, none⟩ = some (.int .i64 e) := (World.cell?_of_block (hm.far _ (fun hn b hb2 => by have := PX hn b hb2; simp only; omega))).trans a9
      have b10 : w10.cell? ⟨w.heap.size, 1, none⟩ = some (.int .i64 f) := (World.cell?_of_block (hm.far _ (fun hn b hb2 => by have := PX hn b hb2; simp only; omega))).trans b9
      have x10 : Ext w w10 := mark_ext x9 hm ((PX).le (by omega))
      have S10 := S9.block (fun hn b hb2 => hm.far _ (fun hn2 b2 hb3 => by have h1 := S0.lt hn hb2; cases hb3; omega))
      have G10 := G9.block (fun hn b hb2 => hm.far _ (fun hn2 b2 hb3 => by have h1 := P6 hn b hb2; cases hb3; omega))
      clear hm a9 b9 x9 S9 G9 X9
      go_wp2_with fail
      go_at_call 18
      refine (EQM.out _ _ _ _ _ G10 S10).mono ?_
      rintro rv w11 ⟨rfl, hb⟩
      have s11 : w.heap.size < w11.heap.size := hb.lt s10
      have a11 : w11.cell? ⟨w.heap.size, 0, none⟩ = some (.int .i64 e) := (hb.cells _ _ s10).trans a10
      have b11 : w11.cell? ⟨w.heap.size, 1, none⟩ = some (.int .i64 f) := (hb.cells _ _ s10).trans b10
      have x11 : Ext w w11 := Ext.trans x10 hb
      have S11 := S10.ext hb
      have G11 := G10.ext hb
      clear hb a10 b10 x10 S10 G10
      go_wp2_with fail
      go_at_call 19
      refine (MKM.out _ _ _ G11).mono ?_
      rintro rv w12 ⟨rfl, hm⟩
      have PG : Past pG m (w.heap.size + 1) := P6.le (by omega)
      have s12 : w.heap.size < w12.heap.size := by rw [hm.size]; exact s11
      have a12 : w12.cell? ⟨w.heap.size, 0, none⟩ = some (.int .i64 e) := (World.cell?_of_block (hm.far _ (fun hn b hb2 => by have := PG hn b hb2; simp only; omega))).trans a11
      have b12 : w12.cell? ⟨w.heap.size, 1, none⟩ = some (.int .i64 f) := (World.cell?_of_block (hm.far _ (fun hn b hb2 => by have := PG hn b hb2; simp only; omega))).trans b11
      have x12 : Ext w w12 := mark_ext x11 hm ((PG).le (by omega))
      have S12 := S11.block (fun hn b hb2 => hm.far _ (fun hn2 b2 hb3 => by have h1 := S0.lt hn hb2; have h2 := P6 hn2 b2 hb3; omega))
      have G12 := hm.row
      clear hm a11 b11 x11 S11 G11
      go_wp2_with fail
      go_at_call 20
      refine (HLM.out _ _ _ G12).mono ?_
      rintro rv w13 ⟨rfl, hb⟩
      have s13 : w.heap.size < w13.heap.size := hb.lt s12
      have a13 : w13.cell? ⟨w.heap.size, 0, none⟩ = some (.int .i64 e) := (hb.cells _ _ s12).trans a12
      have b13 : w13.cell? ⟨w.heap.size, 1, none⟩ = some (.int .i64 f) := (hb.cells _ _ s12).trans b12
      have x13 : Ext w w13 := Ext.trans x12 hb
      have S13 := S12.ext hb
      have G13 := G12.ext hb
      clear hb a12 b12 x12 S12 G12
      go_wp2_with fail
      go_at_call 15
      refine (toFormat_any e f _).mono ?_
      rintro rv w14 ⟨rfl, hb⟩
      have s14 : w.heap.size < w14.heap.size := hb.lt s13
      have a14 : w14.cell? ⟨w.heap.size, 0, none⟩ = some (.int .i64 e) := (hb.cells _ _ s13).trans a13
      have b14 : w14.cell? ⟨w.heap.size, 1, none⟩ = some (.int .i64 f) := (hb.cells _ _ s13).trans b13
      have x14 : Ext w w14 := Ext.trans x13 hb
      have S14 := S13.ext hb
      have G14 := G13.ext hb
      clear hb a13 b13 x13 S13 G13
      go_wp2_with fail
      go_at_call 16
      refine (toIntS_any p n cap V hn _ (hold.ext x14)).mono ?_
      rintro rv w15 ⟨t15, rfl, _, r15, hb⟩
      have s15 : w.heap.size < w15.heap.size := hb.lt s14
      have a15 : w15.cell? ⟨w.heap.size, 0, none⟩ = some (.int .i64 e) := (hb.cells _ _ s14).trans a14
      have b15 : w15.cell? ⟨w.heap.size, 1, none⟩ = some (.int .i64 f) := (hb.cells _ _ s14).trans b14
      have x15 : Ext w w15 := Ext.trans x14 hb
      have S15 := S14.ext hb
      have G15 := G14.ext hb
      clear hb a14 b14 x14 S14 G14
      go_wp2_with fail
      go_at_call 17
      refine (IA.out _ _ r15).mono ?_
      rintro rv w16 ⟨pH, cH, rfl, H16, P16, hb⟩
      have s16 : w.heap.size < w16.heap.size := hb.lt s15
      have a16 : w16.cell? ⟨w.heap.size, 0, none⟩ = some (.int .i64 e) := (hb.cells _ _ s15).trans a15
      have b16 : w16.cell? ⟨w.heap.size, 1, none⟩ = some (.int .i64 f) := (hb.cells _ _ s15).trans b15
      have x16 : Ext w w16 := Ext.trans x15 hb
      have S16 := S15.ext hb
      have G16 := G15.ext hb
      clear r15
      clear hb a15 b15 x15 S15 G15
      go_wp2_with fail
      go_at_call 18
      refine (EQM.out _ _ _ _ _ H16 S16).mono ?_
      rintro rv w17 ⟨rfl, hb⟩
      have s17 : w.heap.size < w17.heap.size := hb.lt s16
      have a17 : w17.cell? ⟨w.heap.size, 0, none⟩ = some (.int .i64 e) := (hb.cells _ _ s16).trans a16
      have b17 : w17.cell? ⟨w.heap.size, 1, none⟩ = some (.int .i64 f) := (hb.cells _ _ s16).trans b16
      have x17 : Ext w w17 := Ext.trans x16 hb
      have S17 := S16.ext hb
      have G17 := G16.ext hb
      have H17 := H16.ext hb
      clear hb a16 b16 x16 S16 G16 H16
      go_wp2_with fail
      go_at_call 20
      refine (HLM.out _ _ _ G17).mono ?_
      rintro rv w18 ⟨rfl, hb⟩
      have s18 : w.heap.size < w18.heap.size := hb.lt s17
      have a18 : w18.cell? ⟨w.heap.size, 0, none⟩ = some (.int .i64 e) := (hb.cells _ _ s17).trans a17
      have b18 : w18.cell? ⟨w.heap.size, 1, none⟩ = some (.int .i64 f) := (hb.cells _ _ s17).trans b17
      have x18 : Ext w w18 := Ext.trans x17 hb
      have S18 := S17.ext hb
      have G18 := G17.ext hb
      have H18 := H17.ext hb
      clear hb a17 b17 x17 S17 G17 H17
      go_wp2_with fail
      go_ret
      exact ⟨rfl, x18⟩

  · have h12 : (1048576 : Int) < (n : Int) := by omega
    go_enter Try.func3, Try.ntmps3
    go_wp2_with fail
    go_ret
    exact ⟨rfl, (by repeat (first | exact Ext.refl _ | with_reducible assumption | apply Ext.alloc | apply Ext.drew | apply Ext.drewN | (refine Ext.setRow ?_ (by first | (simp; done) | (simp; omega) | omega) _) | (refine Ext.setCell ?_ (by first | (simp; done) | (simp; omega) | omega) _) | (refine Ext.trans ?_ (by with_reducible assumption))))⟩
end Go.Proofs.Ytdagfocpbnamfaa

