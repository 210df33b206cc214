/-
  Contracts of the functions that the laws reach, and the plain facts that they rest on, each under the conditions that its line names; part 28.
-/
import Derived.Test.YtjebechmedhidaaDoorKda1
import Derived.Test.YtjebechmedhidaaDoorKda2
import Derived.Test.YtjebechmedhidaaDoorKda3
import Derived.Test.YtjebechmedhidaaDoorKda4
import Derived.Test.YtjebechmedhidaaDoorKda5
import Derived.Test.YtjebechmedhidaaDoorKda6
import Derived.Test.YtjebechmedhidaaDoorKda7
import Derived.Test.YtjebechmedhidaaDoorKda8
import Derived.Test.YtjebechmedhidaaDoorKda9
import Derived.Test.YtjebechmedhidaaDoorKda10
import Derived.Test.YtjebechmedhidaaDoorKda11
import Derived.Test.YtjebechmedhidaaDoorKda12
import Derived.Test.YtjebechmedhidaaDoorKda13
import Derived.Test.YtjebechmedhidaaDoorKda14
import Derived.Test.YtjebechmedhidaaDoorKda15
import Derived.Test.YtjebechmedhidaaDoorKda16
import Derived.Test.YtjebechmedhidaaDoorKda17
import Derived.Test.YtjebechmedhidaaDoorKda18
import Derived.Test.YtjebechmedhidaaDoorKda19
import Derived.Test.YtjebechmedhidaaDoorKda20
import Derived.Test.YtjebechmedhidaaDoorKda21
import Derived.Test.YtjebechmedhidaaDoorKda22
import Derived.Test.YtjebechmedhidaaDoorKda23
import Derived.Test.YtjebechmedhidaaDoorKda24
import Derived.Test.YtjebechmedhidaaDoorKda25
import Derived.Test.YtjebechmedhidaaDoorKda26
import Derived.Test.YtjebechmedhidaaDoorKda27
import Derived.Test.YtjebechmedhidaaDoorRows
import Derived.WalkKit
import Derived.LoopTactic
import Derived.LoopN
import Derived.Deep.LoopGhost
import Derived.Laws.Bits64b
import Derived.WalkSpells
import Derived.WalkLawsBesides
import Derived.StillTactics
import Derived.Laws.Pointers
import Derived.Deep.RegionHeld3
import Derived.Deep.QuietTactic
import Derived.BigQuiet
import Derived.Outline
import Derived.Lib.Hide
import Derived.RowKit3
import Derived.Carry
import Derived.IntWalk
namespace Go.Proofs.YtjebechmedhidaaDoor
open Go Go.RowKit
set_option linter.unusedSimpArgs false
set_option linter.unusedVariables false
set_option maxRecDepth 100000

set_option maxHeartbeats 3200000 in
theorem iExactSum_yes (e f : Int) (V : Nat → Int) (a : Addr) (n cap : Nat) (h : lstB e f V n = true) (w : World) (hc : ∀ i, i < n → w.cell? (a.add i) = some (.int .i64 (V i))) (ha : a.block < w.heap.size) (hT : TW w) : Calls Tryd.prog 25 #[fmt e f, .slice (some a) n cap] w fun rv w' => rv = .returned (.tuple #[two (nfN (sumU e f V n) (unV e f)) (nfE (sumU e f V n) (unV e f)), .bool (nfB (sumU e f V n) (unV e f))]) ∧ Ext w w' := by
  go_enter Tryd.func25, Tryd.ntmps25
  go_wp2_with (go_at_call 59; (with_reducible refine (valuesOf_list e f V a n cap h _ (fun i hi => (ext_add (a := a) (w := w) Ext.auK ha i).trans (hc i hi)) (by simp; omega)).mono ?_); rintro rv w1 ⟨p, cp, rfl, hp, hb⟩; have ns : w.heap.size + 1 < w1.heap.size := hb.lt (by first | (simp; done) | (simp; omega)); have g0 : w1.cell? ⟨w.heap.size, 0, none⟩ = some (.int .i64 e) := (hb.cells _ _ (by first | (simp; done) | (simp; omega))).trans (by first | (simp; done) | (simp [go_sem, *]; done)); have g1 : w1.cell? ⟨w.heap.size, 1, none⟩ = some (.int .i64 f) := (hb.cells _ _ (by first | (simp; done) | (simp; omega))).trans (by first | (simp; done) | (simp [go_sem, *]; done)); have g2 : w1.cell? ⟨w.heap.size + 1, 0, none⟩ = some (.int .i64 0) := (hb.cells _ _ (by first | (simp; done) | (simp; omega))).trans (by first | (simp; done) | (simp [go_sem, *]; done)); have g3 : w1.cell? ⟨w.heap.size + 1, 1, none⟩ = some (.int .i64 0) := (hb.cells _ _ (by first | (simp; done) | (simp; omega))).trans (by first | (simp; done) | (simp [go_sem, *]; done)); have z0 : w1.frozen? ⟨w.heap.size + 1, 0, none⟩ = false := (hb.frz _ _ (by first | (simp; done) | (simp; omega))).trans (by first | (simp [go_sem]; done) | (simp [go_sem, *]; done)); have z1 : w1.frozen? ⟨w.heap.size + 1, 1, none⟩ = false := (hb.frz _ _ (by first | (simp; done) | (simp; omega))).trans (by first | (simp [go_sem]; done) | (simp [go_sem, *]; done)); have hx : Ext w w1 := Ext.trans Ext.auK hb; clear hb)
  obtain ⟨hg, h12, hV⟩ := lst_iff.1 h
  obtain ⟨uv1, uv2, _, _⟩ := un_bd hg
  have hs1 := sumU_size hV n (by omega)
  go_loopw [8, 22] (fun y x wr => ∃ k : Nat, x = .int .i64 (k : Int) ∧ k ≤ n ∧ y = .int .i64 (sumU e f V k) ∧ wr.cell? ⟨w.heap.size, 0, none⟩ = some (.int .i64 e) ∧ wr.cell? ⟨w.heap.size, 1, none⟩ = some (.int .i64 f) ∧ wr.cell? ⟨w.heap.size + 1, 0, none⟩ = some (.int .i64 0) ∧ wr.cell? ⟨w.heap.size + 1, 1, none⟩ = some (.int .i64 0) ∧ wr.frozen? ⟨w.heap.size + 1, 0, none⟩ = false ∧ wr.frozen? ⟨w.heap.size + 1, 1, none⟩ = false ∧ w.heap.size + 1 < wr.heap.size ∧ Ext w wr ∧ Ext w1 wr) (fun _ x _ => n - (intOf x).toNat)
  case atStart => exact ⟨0, rfl, by omega, rfl, g0, g1, g2, g3, z0, z1, by with_reducible assumption, hx, Ext.refl _⟩
  case round =>
    clear g0 g1 g2 g3 z0 z1 hx
    obtain ⟨k, rfl, hk, rfl, g0, g1, g2, g3, z0, z1, hs, hx, hy⟩ := hrel
    by_cases hlt : k < n
    · obtain ⟨gl, rfl, q1, q2, hcl⟩ := hp (by omega)
      have h1 : ((k : Nat) : Int) < (n : Int) := by omega
      have h0 : (0 : Int) ≤ (k : Int) := by omega
      have h2 : ((k : Int)).toNat = k := by omega
      have u1 : IntKind.i64.wrap ((k : Int) + 1) = (k : Int) + 1 := IntWalk.i64_in _ (by omega)
      have ga : wr.cell? ⟨gl, k, none⟩ = some (.float .f32 (floatOfInt .f32 (unitsV e f (V k)))) := (hy.cells _ _ q2).trans (hcl k hlt)
      have cvk := conv_cw (hV k hlt)
      have sz1 := sumU_size hV k (by omega)
      have sz2 := sumU_size hV (k + 1) (by omega)
      have ks : sumU e f V (k + 1) = sumU e f V k + unitsV e f (V k) := rfl
      rw [ks] at sz2
      have kw : IntKind.i64.wrap (sumU e f V k + unitsV e f (V k)) = sumU e f V k + unitsV e f (V k) := IntWalk.i64_in _ (by omega)
      have KS := Lib.hid ks; clear ks sz1 sz2 hs1
      generalize floatOfInt .f32 (unitsV e f (V k)) = xk at *
      go_wp2_with fail
      go_roundw
      case rel => exact ⟨k + 1, by simp, by omega, by rw [KS.out], by with_reducible assumption, by with_reducible assumption, by with_reducible assumption, by with_reducible assumption, by with_reducible assumption, by with_reducible assumption, by with_reducible assumption, by with_reducible assumption, by with_reducible assumption⟩
      case measure => simp [intOf]; omega
    · have h1 : ¬ ((k : Nat) : Int) < (n : Int) := by omega
      have hkn : k = n := by omega
      subst hkn
      go_wp2_with (first | (go_at_call 61; refine (unitPower_any e f hg _).mono ?_; rintro rv w1 ⟨rfl, hb⟩; have ns : w.heap.size + 1 < w1.heap.size := hb.ltK; have n0 : w1.cell? ⟨w.heap.size, 0, none⟩ = some (.int .i64 e) := hb.cellK; have n1 : w1.cell? ⟨w.heap.size, 1, none⟩ = some (.int .i64 f) := hb.cellK; have n2 : w1.cell? ⟨w.heap.size + 1, 0, none⟩ = some (.int .i64 0) := hb.cellK; have n3 : w1.cell? ⟨w.heap.size + 1, 1, none⟩ = some (.int .i64 0) := hb.cellK; have nz0 : w1.frozen? ⟨w.heap.size + 1, 0, none⟩ = false := hb.frzK; have nz1 : w1.frozen? ⟨w.heap.size + 1, 1, none⟩ = false := hb.frzK; (first | (have nx := Ext.trans hx hb; clear hx) | (have nx := Ext.trans (hx.alloc _) hb; clear hx) | (have nx := Ext.trans hx.drew hb; clear hx) | have nx := hb); clear hb; try clear hs; try clear g0; try clear g1; try clear g2; try clear g3; try clear z0; try clear z1; have hx := nx; clear nx; have hs := ns; clear ns; have g0 := n0; clear n0; have g1 := n1; clear n1; have g2 := n2; clear n2; have g3 := n3; clear n3; have z0 := nz0; clear nz0; have z1 := nz1; clear nz1) | (go_at_call 60; refine (lowest_any _ _ (by omega) (by omega) (by omega) (by omega) _ (hT.ext Ext.auK)).mono ?_; rintro rv w1 ⟨rfl, hb⟩; have ns : w.heap.size + 1 < w1.heap.size := hb.ltK; have n0 : w1.cell? ⟨w.heap.size, 0, none⟩ = some (.int .i64 e) := hb.cellK; have n1 : w1.cell? ⟨w.heap.size, 1, none⟩ = some (.int .i64 f) := hb.cellK; have n2 : w1.cell? ⟨w.heap.size + 1, 0, none⟩ = some (.int .i64 0) := hb.cellK; have n3 : w1.cell? ⟨w.heap.size + 1, 1, none⟩ = some (.int .i64 0) := hb.cellK; have nz0 : w1.frozen? ⟨w.heap.size + 1, 0, none⟩ = false := hb.frzK; have nz1 : w1.frozen? ⟨w.heap.size + 1, 1, none⟩ = false := hb.frzK; (first | (have nx := Ext.trans hx hb; clear hx) | (have nx := Ext.trans (hx.alloc _) hb; clear hx) | (have nx := Ext.trans hx.drew hb; clear hx) | have nx := hb); clear hb; try clear hs; try clear g0; try clear g1; try clear g2; try clear g3; try clear z0; try clear z1; have hx := nx; clear nx; have hs := ns; clear ns; have g0 := n0; clear n0; have g1 := n1; clear n1; have g2 := n2; clear n2; have g3 := n3; clear n3; have z0 := nz0; clear nz0; have z1 := nz1; clear nz1))
      exact bodyPost_ret (v := .tuple #[two (nfN (sumU e f V k) (unV e f)) (nfE (sumU e f V k) (unV e f)), .bool (nfB (sumU e f V k) (unV e f))]) (by simp [results, Tryd.results25, go_sem, *]) rfl ⟨rfl, Ext.auK⟩

theorem sum_low {e f : Int} {V : Nat → Int} {n : Nat} (h : lstB e f V n = true) : nfB (sumU e f V n) (unV e f) = true ∧ nfN (sumU e f V n) (unV e f) = odV (sumU e f V n) ∧ nfE (sumU e f V n) (unV e f) = shE (sumU e f V n) (unV e f) := by
  obtain ⟨hg, h12, hV⟩ := lst_iff.1 h
  obtain ⟨uv1, uv2, _, _⟩ := un_bd hg
  have hs := sumU_size hV n (by omega)
  exact nf_small (by omega) (by omega) (by omega) (by omega)

theorem iExactSum_no (e f : Int) (V : Nat → Int) (a : Addr) (n cap : Nat) (h : lstB e f V n = false) (w : World) (hc : ∀ i, i < n → w.cell? (a.add i) = some (.int .i64 (V i))) (ha : a.block < w.heap.size) : Calls Tryd.prog 25 #[fmt e f, .slice (some a) n cap] w fun rv w' => rv = .returned (.tuple #[two 0 0, .bool false]) ∧ Ext w w' := by
  go_enter Tryd.func25, Tryd.ntmps25
  go_wp2_with (go_at_call 59; (with_reducible refine (valuesOf_list_no e f V a n cap h _ (fun i hi => (ext_add (a := a) (w := w) Ext.auK ha i).trans (hc i hi)) (by simp; omega)).mono ?_); rintro rv w1 ⟨rfl, hb⟩; have ns : w.heap.size + 1 < w1.heap.size := hb.lt (by first | (simp; done) | (simp; omega)); have g0 : w1.cell? ⟨w.heap.size, 0, none⟩ = some (.int .i64 e) := (hb.cells _ _ (by first | (simp; done) | (simp; omega))).trans (by first | (simp; done) | (simp [go_sem, *]; done)); have g1 : w1.cell? ⟨w.heap.size, 1, none⟩ = some (.int .i64 f) := (hb.cells _ _ (by first | (simp; done) | (simp; omega))).trans (by first | (simp; done) | (simp [go_sem, *]; done)); have g2 : w1.cell? ⟨w.heap.size + 1, 0, none⟩ = some (.int .i64 0) := (hb.cells _ _ (by first | (simp; done) | (simp; omega))).trans (by first | (simp; done) | (simp [go_sem, *]; done)); have g3 : w1.cell? ⟨w.heap.size + 1, 1, none⟩ = some (.int .i64 0) := (hb.cells _ _ (by first | (simp; done) | (simp; omega))).trans (by first | (simp; done) | (simp [go_sem, *]; done)); have z0 : w1.frozen? ⟨w.heap.size + 1, 0, none⟩ = false := (hb.frz _ _ (by first | (simp; done) | (simp; omega))).trans (by first | (simp [go_sem]; done) | (simp [go_sem, *]; done)); have z1 : w1.frozen? ⟨w.heap.size + 1, 1, none⟩ = false := (hb.frz _ _ (by first | (simp; done) | (simp; omega))).trans (by first | (simp [go_sem]; done) | (simp [go_sem, *]; done)); have hx : Ext w w1 := Ext.trans Ext.auK hb; clear hb)
  exact bodyPost_ret (v := .tuple #[two 0 0, .bool false]) (by simp [results, Tryd.results25, go_sem, *]) rfl ⟨rfl, Ext.auK⟩

theorem iExactSum_any (e f : Int) (V : Nat → Int) (a : Addr) (n cap : Nat) (w : World) (hc : ∀ i, i < n → w.cell? (a.add i) = some (.int .i64 (V i))) (ha : a.block < w.heap.size) (hT : TW w) : Calls Tryd.prog 25 #[fmt e f, .slice (some a) n cap] w fun rv w' => rv = .returned (.tuple #[two (if lstB e f V n = true then odV (sumU e f V n) else 0) (if lstB e f V n = true then shE (sumU e f V n) (unV e f) else 0), .bool (lstB e f V n)]) ∧ Ext w w' := by
  cases h : lstB e f V n
  · exact iExactSum_no e f V a n cap h w hc ha
  · obtain ⟨e1, e2, e3⟩ := sum_low h
    have := iExactSum_yes e f V a n cap h w hc ha hT
    rw [e1, e2, e3] at this
    exact this
end Go.Proofs.YtjebechmedhidaaDoor

namespace Go.Proofs.YtjebechmedhidaaDoor
open Go Go.RowKit
set_option linter.unusedSimpArgs false
set_option linter.unusedVariables false

/-- What ExactSum answers. -/
def esN (e f : Int) (V : Nat → Int) (n : Nat) : Int := if lstB e f V n = true then odV (sumU e f V n) else 0

def esE (e f : Int) (V : Nat → Int) (n : Nat) : Int := if lstB e f V n = true then shE (sumU e f V n) (unV e f) else 0

theorem iExactSum_row (e f : Int) (V : Nat → Int) (b n : Nat) (w : World) (h : w.rowIs b 3 n (fun i => .int .i64 (V i))) (hT : TW w) : Calls Tryd.prog 25 #[fmt e f, .slice (some ⟨b, 0, none⟩) n n] w fun rv w' => rv = .returned (.tuple #[two (esN e f V n) (esE e f V n), .bool (lstB e f V n)]) ∧ Ext w w' := by
  have hc : ∀ i, i < n → w.cell? ((⟨b, 0, none⟩ : Addr).add i) = some (.int .i64 (V i)) := fun i hi => by
    have := h.cell hi
    simp only [Addr.add]; split
    · rename_i h0; subst h0; simpa using this
    · simpa using this
  exact iExactSum_any e f V _ n n w hc h.lt hT
end Go.Proofs.YtjebechmedhidaaDoor

namespace Go.Proofs.YtjebechmedhidaaDoor
open Go Go.RowKit
set_option linter.unusedSimpArgs false
set_option linter.unusedVariables false

/-- What RoundedSum answers. -/
noncomputable def rsV (e f : Int) (V : Nat → Int) (n : Nat) : Int := if lstB e f V n = true then nsR e f (sumU e f V n) else 0

noncomputable def rsB (e f : Int) (V : Nat → Int) (n : Nat) : Bool := lstB e f V n && nsB e f (sumU e f V n)

theorem rs_same {e f u s : Int} (hg : goodB e f = true) (u0 : -1152921504606846976 < u) (u1 : u < 1152921504606846976) (h : RndD e f ((odV u).natAbs : Int) (shE u (unV e f) - unV e f) 0 (decide (odV u < 0)) s) : sgP e f (odV u) s = nsV e f u := by
  have hf := (good_iff.1 hg).2.2.1
  have hp : (0 : Int) < pw 149 := by have := pw_pos 149; omega
  by_cases hz : u = 0
  · subst hz
    rw [od_zero] at h ⊢
    unfold RndD at h
    rw [show ((Int.natAbs 0 : Nat) : Int) = 0 from rfl, Int.zero_mul] at h
    have h3 : NSp e f 0 s := by
      have h2 : IsRnd f (grV e f) 0 1 0 (decide ((0 : Int) < 0)) s := by
        refine rnd_move ?_ h
        intro T _
        have := sg_up (X := 0) (D := 1) (T := T) (m := pw 149) hp
        rw [Int.one_mul, Int.zero_mul] at this
        exact this
      exact h2
    have hs : s = 0 := by rw [nsP_one hg h3]; exact (nsP_zero hg).2 rfl
    subst hs
    unfold nsV exV
    rw [if_pos ((nsP_zero hg).2 rfl)]
    unfold sgP
    simp
  · obtain ⟨t0, t1, t2, t3⟩ := tz_spec u hz (by omega) (by omega)
    have os := (od_sign (S := u) (by omega) (by omega)).1
    have hx : shE u (unV e f) - unV e f = tzV u := by
      have : shE u (unV e f) = unV e f + tzV u := if_neg hz
      omega
    have pt := pw_pos (tzV u)
    have hm : ((odV u).natAbs : Int) * pw (tzV u) = (u.natAbs : Int) := by
      have e1 : ((odV u * pw (tzV u)).natAbs : Int) = ((odV u).natAbs : Int) * pw (tzV u) := by
        rw [Int.natAbs_mul, Int.natCast_mul, Int.natAbs_of_nonneg (show 0 ≤ pw (tzV u) by omega)]
      rw [← t2] at e1
      exact e1.symm
    rw [hx] at h
    unfold RndD at h
    rw [pw_add _ 149 t0 (by decide), ← Int.mul_assoc, hm] at h
    have h2 : IsRnd f (grV e f) (u.natAbs : Int) 1 0 (decide (odV u < 0)) s := by
      refine rnd_move ?_ h
      intro T _
      have := sg_up (X := (u.natAbs : Int)) (D := 1) (T := T) (m := pw 149) hp
      rw [Int.one_mul] at this
      exact this
    have h3 : NSp e f u s := by
      cases hd : decide (odV u < 0) <;> rw [hd] at h2 <;> exact h2
    have hs := nsP_one hg h3
    subst hs
    have nz : nsP e f u ≠ 0 := fun g => hz ((nsP_zero hg).1 g)
    unfold nsV exV sgP
    rw [if_neg nz]
    by_cases g : u < 0
    · rw [if_pos g, if_pos (os.2 g)]
    · rw [if_neg g, if_neg (fun k => g (os.1 k))]

theorem lst_sum {e f : Int} {V : Nat → Int} {n : Nat} (h : lstB e f V n = true) : goodB e f = true ∧ -35184372088832 ≤ sumU e f V n ∧ sumU e f V n ≤ 35184372088832 := by
  obtain ⟨hg, h12, hV⟩ := lst_iff.1 h
  have hs := sumU_size hV n (by omega)
  exact ⟨hg, by omega, by omega⟩

theorem roundedDyadic_units (e f u : Int) (hg : goodB e f = true) (u0 : -35184372088832 ≤ u) (u1 : u ≤ 35184372088832) (w : World) : Calls Tryd.prog 26 #[fmt e f, two (odV u) (shE u (unV e f)), .int .i64 0] w fun rv w' => rv = .returned (.tuple #[.int .i64 (nsV e f u), .bool true]) ∧ Ext w w' := by
  have ub := un_bd hg
  have hd : dyB (odV u) (shE u (unV e f)) = true := dy_low (by omega) (by omega) (by omega) (by omega)
  refine (iRoundDyadic_yes e f (odV u) (shE u (unV e f)) 0 (rq_iff.2 ⟨⟨hg, hd⟩, by decide, by decide⟩) w).mono ?_
  rintro rv w' ⟨s, rfl, hq, hb⟩
  rw [rs_same hg (by omega) (by omega) hq]
  exact ⟨rfl, hb⟩

theorem iRoundedSum_row (e f : Int) (V : Nat → Int) (b n : Nat) (w : World) (h : w.rowIs b 3 n (fun i => .int .i64 (V i))) (hT : TW w) : Calls Tryd.prog 11 #[fmt e f, .slice (some ⟨b, 0, none⟩) n n] w fun rv w' => rv = .returned (.tuple #[.int .i64 (rsV e f V n), .bool (rsB e f V n)]) ∧ Ext w w' := by
  have IA := Lib.hid (fun w h hT => iExactSum_row e f V b n w h hT)
  cases hB : lstB e f V n
  · have e1 : rsV e f V n = 0 := by unfold rsV; rw [hB]; rfl
    have e2 : rsB e f V n = false := by unfold rsB; rw [hB]; rfl
    rw [e1, e2]
    rw [hB] at IA
    generalize esN e f V n = N at *
    generalize esE e f V n = E at *
    go_enter Tryd.func11, Tryd.ntmps11
    go_wp2_with (go_at_call 25; refine (IA.out _ (row_ext h Ext.auK) (hT.ext Ext.auK)).mono ?_; rintro rv w1 ⟨rfl, hb⟩; have ns : w.heap.size < w1.heap.size := hb.ltK; have n0 : w1.cell? ⟨w.heap.size, 0, none⟩ = some (.int .i64 e) := hb.cellK; have n1 : w1.cell? ⟨w.heap.size, 1, none⟩ = some (.int .i64 f) := hb.cellK; (first | (have nx := Ext.trans hx hb; clear hx) | (have nx := Ext.trans (hx.alloc _) hb; clear hx) | (have nx := Ext.trans hx.drew hb; clear hx) | have nx := hb); clear hb; try clear hs; try clear g0; try clear g1; have hx := nx; clear nx; have hs := ns; clear ns; have g0 := n0; clear n0; have g1 := n1; clear n1)
    go_ret2
    exact ⟨rfl, Ext.auK⟩
  · obtain ⟨hg, s0, s1⟩ := lst_sum hB
    have n1 : esN e f V n = odV (sumU e f V n) := by unfold esN; rw [hB]; rfl
    have n2 : esE e f V n = shE (sumU e f V n) (unV e f) := by unfold esE; rw [hB]; rfl
    have RD := Lib.hid (fun w => roundedDyadic_units e f (sumU e f V n) hg s0 s1 w)
    have HF := Lib.hid (fun w => hasFinite_any e f (nsV e f (sumU e f V n)) w)
    have q1 := (ns_pat (u := sumU e f V n) hg).2
    rw [q1] at HF
    have e1 : rsV e f V n = nsR e f (sumU e f V n) := by unfold rsV; rw [hB]; rfl
    have e2 : rsB e f V n = nsB e f (sumU e f V n) := by unfold rsB; rw [hB]; rfl
    have e3 : nsR e f (sumU e f V n) = if nsB e f (sumU e f V n) = true then nsV e f (sumU e f V n) else 0 := rfl
    rw [e1, e2, e3]
    rw [hB, n1, n2] at IA
    clear e1 e2 e3 q1 n1 n2 s0 s1 hB hg
    generalize nsB e f (sumU e f V n) = B at *
    generalize nsV e f (sumU e f V n) = P at *
    generalize shE (sumU e f V n) (unV e f) = E at *
    generalize odV (sumU e f V n) = N at *
    cases B
    · rw [if_neg (by decide)]
      go_enter Tryd.func11, Tryd.ntmps11
      go_wp2_with (first | (go_at_call 25; refine (IA.out _ (row_ext h Ext.auK) (hT.ext Ext.auK)).mono ?_; rintro rv w1 ⟨rfl, hb⟩; have ns : w.heap.size < w1.heap.size := hb.ltK; have n0 : w1.cell? ⟨w.heap.size, 0, none⟩ = some (.int .i64 e) := hb.cellK; have n1 : w1.cell? ⟨w.heap.size, 1, none⟩ = some (.int .i64 f) := hb.cellK; (first | (have nx := Ext.trans hx hb; clear hx) | (have nx := Ext.trans (hx.alloc _) hb; clear hx) | (have nx := Ext.trans hx.drew hb; clear hx) | have nx := hb); clear hb; try clear hs; try clear g0; try clear g1; have hx := nx; clear nx; have hs := ns; clear ns; have g0 := n0; clear n0; have g1 := n1; clear n1) | (go_at_call 26; refine (RD.out _).mono ?_; rintro rv w1 ⟨rfl, hb⟩; have ns : w.heap.size < w1.heap.size := hb.ltK; have n0 : w1.cell? ⟨w.heap.size, 0, none⟩ = some (.int .i64 e) := hb.cellK; have n1 : w1.cell? ⟨w.heap.size, 1, none⟩ = some (.int .i64 f) := hb.cellK; (first | (have nx := Ext.trans hx hb; clear hx) | (have nx := Ext.trans (hx.alloc _) hb; clear hx) | (have nx := Ext.trans hx.drew hb; clear hx) | have nx := hb); clear hb; try clear hs; try clear g0; try clear g1; have hx := nx; clear nx; have hs := ns; clear ns; have g0 := n0; clear n0; have g1 := n1; clear n1) | (go_at_call 27; refine (HF.out _).mono ?_; rintro rv w1 ⟨rfl, hb⟩; have ns : w.heap.size < w1.heap.size := hb.ltK; have n0 : w1.cell? ⟨w.heap.size, 0, none⟩ = some (.int .i64 e) := hb.cellK; have n1 : w1.cell? ⟨w.heap.size, 1, none⟩ = some (.int .i64 f) := hb.cellK; (first | (have nx := Ext.trans hx hb; clear hx) | (have nx := Ext.trans (hx.alloc _) hb; clear hx) | (have nx := Ext.trans hx.drew hb; clear hx) | have nx := hb); clear hb; try clear hs; try clear g0; try clear g1; have hx := nx; clear nx; have hs := ns; clear ns; have g0 := n0; clear n0; have g1 := n1; clear n1))
      go_ret2
      exact ⟨rfl, Ext.auK⟩
    · rw [if_pos rfl]
      go_enter Tryd.func11, Tryd.ntmps11
      go_wp2_with (first | (go_at_call 25; refine (IA.out _ (row_ext h Ext.auK) (hT.ext Ext.auK)).mono ?_; rintro rv w1 ⟨rfl, hb⟩; have ns : w.heap.size < w1.heap.size := hb.ltK; have n0 : w1.cell? ⟨w.heap.size, 0, none⟩ = some (.int .i64 e) := hb.cellK; have n1 : w1.cell? ⟨w.heap.size, 1, none⟩ = some (.int .i64 f) := hb.cellK; (first | (have nx := Ext.trans hx hb; clear hx) | (have nx := Ext.trans (hx.alloc _) hb; clear hx) | (have nx := Ext.trans hx.drew hb; clear hx) | have nx := hb); clear hb; try clear hs; try clear g0; try clear g1; have hx := nx; clear nx; have hs := ns; clear ns; have g0 := n0; clear n0; have g1 := n1; clear n1) | (go_at_call 26; refine (RD.out _).mono ?_; rintro rv w1 ⟨rfl, hb⟩; have ns : w.heap.size < w1.heap.size := hb.ltK; have n0 : w1.cell? ⟨w.heap.size, 0, none⟩ = some (.int .i64 e) := hb.cellK; have n1 : w1.cell? ⟨w.heap.size, 1, none⟩ = some (.int .i64 f) := hb.cellK; (first | (have nx := Ext.trans hx hb; clear hx) | (have nx := Ext.trans (hx.alloc _) hb; clear hx) | (have nx := Ext.trans hx.drew hb; clear hx) | have nx := hb); clear hb; try clear hs; try clear g0; try clear g1; have hx := nx; clear nx; have hs := ns; clear ns; have g0 := n0; clear n0; have g1 := n1; clear n1) | (go_at_call 27; refine (HF.out _).mono ?_; rintro rv w1 ⟨rfl, hb⟩; have ns : w.heap.size < w1.heap.size := hb.ltK; have n0 : w1.cell? ⟨w.heap.size, 0, none⟩ = some (.int .i64 e) := hb.cellK; have n1 : w1.cell? ⟨w.heap.size, 1, none⟩ = some (.int .i64 f) := hb.cellK; (first | (have nx := Ext.trans hx hb; clear hx) | (have nx := Ext.trans (hx.alloc _) hb; clear hx) | (have nx := Ext.trans hx.drew hb; clear hx) | have nx := hb); clear hb; try clear hs; try clear g0; try clear g1; have hx := nx; clear nx; have hs := ns; clear ns; have g0 := n0; clear n0; have g1 := n1; clear n1))
      go_ret2
      exact ⟨rfl, Ext.auK⟩

theorem sRoundedSum_row (e f : Int) (V : Nat → Int) (b n : Nat) (w : World) (h : w.rowIs b 3 n (fun i => .int .i64 (V i))) : Calls Tryd.prog 8 #[fmt e f, .slice (some ⟨b, 0, none⟩) n n] w fun rv w' => rv = .returned (.tuple #[.int .i64 (rsV e f V n), .bool (rsB e f V n)]) ∧ Ext w w' := by
  have hc : ∀ i, i < n → w.cell? ((⟨b, 0, none⟩ : Addr).add i) = some (.int .i64 (V i)) := fun i hi => by
    have := h.cell hi
    simp only [Addr.add]; split
    · rename_i h0; subst h0; simpa using this
    · simpa using this
  have EA := Lib.hid (fun w hc ha => exList_any e f V ⟨b, 0, none⟩ n n w hc ha)
  cases hB : lstB e f V n
  · have e1 : rsV e f V n = 0 := by unfold rsV; rw [hB]; rfl
    have e2 : rsB e f V n = false := by unfold rsB; rw [hB]; rfl
    rw [e1, e2]
    rw [hB] at EA
    clear hB e1 e2
    go_enter Tryd.func8, Tryd.ntmps8
    go_wp2_with (go_at_call 21; refine (EA.out _ (fun i hi => (ext_add (a := (⟨b, 0, none⟩ : Addr)) (w := w) Ext.auK h.lt i).trans (hc i hi)) (by first | exact (row_ext h Ext.auK).lt | (simp; have := h.lt; omega))).mono ?_; rintro rv w1 ⟨rfl, hb⟩; have ns : w.heap.size < w1.heap.size := hb.ltK; have n0 : w1.cell? ⟨w.heap.size, 0, none⟩ = some (.int .i64 e) := hb.cellK; have n1 : w1.cell? ⟨w.heap.size, 1, none⟩ = some (.int .i64 f) := hb.cellK; (first | (have nx := Ext.trans hx hb; clear hx) | (have nx := Ext.trans (hx.alloc _) hb; clear hx) | (have nx := Ext.trans hx.drew hb; clear hx) | have nx := hb); clear hb; try clear hs; try clear g0; try clear g1; have hx := nx; clear nx; have hs := ns; clear ns; have g0 := n0; clear n0; have g1 := n1; clear n1)
    go_ret2
    exact ⟨rfl, Ext.auK⟩
  · obtain ⟨hg, s0, s1⟩ := lst_sum hB
    have EUB := Lib.hid (fun w hc ha => exUnits_any e f V ⟨b, 0, none⟩ n n (lst_iff.1 hB).2.1 (lst_iff.1 hB).2.2 w hc ha)
    have EO := Lib.hid (fun w => exOf_any e f (sumU e f V n) hg s0 s1 w)
    obtain ⟨q0, q1⟩ := ns_pat (u := sumU e f V n) hg
    have EF := Lib.hid (fun w => exFits_any e f (nsV e f (sumU e f V n)) q0 w)
    rw [q1] at EF
    have e1 : rsV e f V n = nsR e f (sumU e f V n) := by unfold rsV; rw [hB]; rfl
    have e2 : rsB e f V n = nsB e f (sumU e f V n) := by unfold rsB; rw [hB]; rfl
    have e3 : nsR e f (sumU e f V n) = if nsB e f (sumU e f V n) = true then nsV e f (sumU e f V n) else 0 := rfl
    rw [e1, e2, e3]
    rw [hB] at EA
    clear e1 e2 e3 q0 q1 s0 s1 hB hg
    generalize nsB e f (sumU e f V n) = B at *
    generalize nsV e f (sumU e f V n) = P at *
    generalize sumU e f V n = U at *
    cases B
    · rw [if_neg (by decide)]
      go_enter Tryd.func8, Tryd.ntmps8
      go_wp2_with (first | (go_at_call 21; refine (EA.out _ (fun i hi => (ext_add (a := (⟨b, 0, none⟩ : Addr)) (w := w) Ext.auK h.lt i).trans (hc i hi)) (by first | exact (row_ext h Ext.auK).lt | (simp; have := h.lt; omega))).mono ?_; rintro rv w1 ⟨rfl, hb⟩; have ns : w.heap.size < w1.heap.size := hb.ltK; have n0 : w1.cell? ⟨w.heap.size, 0, none⟩ = some (.int .i64 e) := hb.cellK; have n1 : w1.cell? ⟨w.heap.size, 1, none⟩ = some (.int .i64 f) := hb.cellK; (first | (have nx := Ext.trans hx hb; clear hx) | (have nx := Ext.trans (hx.alloc _) hb; clear hx) | (have nx := Ext.trans hx.drew hb; clear hx) | have nx := hb); clear hb; try clear hs; try clear g0; try clear g1; have hx := nx; clear nx; have hs := ns; clear ns; have g0 := n0; clear n0; have g1 := n1; clear n1) | (go_at_call 23; refine (EUB.out _ (fun i hi => (ext_add (a := (⟨b, 0, none⟩ : Addr)) (w := w) Ext.auK h.lt i).trans (hc i hi)) (by first | exact (row_ext h Ext.auK).lt | (simp; have := h.lt; omega))).mono ?_; rintro rv w1 ⟨rfl, hb⟩; have ns : w.heap.size < w1.heap.size := hb.ltK; have n0 : w1.cell? ⟨w.heap.size, 0, none⟩ = some (.int .i64 e) := hb.cellK; have n1 : w1.cell? ⟨w.heap.size, 1, none⟩ = some (.int .i64 f) := hb.cellK; (first | (have nx := Ext.trans hx hb; clear hx) | (have nx := Ext.trans (hx.alloc _) hb; clear hx) | (have nx := Ext.trans hx.drew hb; clear hx) | have nx := hb); clear hb; try clear hs; try clear g0; try clear g1; have hx := nx; clear nx; have hs := ns; clear ns; have g0 := n0; clear n0; have g1 := n1; clear n1) | (go_at_call 22; refine (EO.out _).mono ?_; rintro rv w1 ⟨rfl, hb⟩; have ns : w.heap.size < w1.heap.size := hb.ltK; have n0 : w1.cell? ⟨w.heap.size, 0, none⟩ = some (.int .i64 e) := hb.cellK; have n1 : w1.cell? ⟨w.heap.size, 1, none⟩ = some (.int .i64 f) := hb.cellK; (first | (have nx := Ext.trans hx hb; clear hx) | (have nx := Ext.trans (hx.alloc _) hb; clear hx) | (have nx := Ext.trans hx.drew hb; clear hx) | have nx := hb); clear hb; try clear hs; try clear g0; try clear g1; have hx := nx; clear nx; have hs := ns; clear ns; have g0 := n0; clear n0; have g1 := n1; clear n1) | (go_at_call 24; refine (EF.out _).mono ?_; rintro rv w1 ⟨rfl, hb⟩; have ns : w.heap.size < w1.heap.size := hb.ltK; have n0 : w1.cell? ⟨w.heap.size, 0, none⟩ = some (.int .i64 e) := hb.cellK; have n1 : w1.cell? ⟨w.heap.size, 1, none⟩ = some (.int .i64 f) := hb.cellK; (first | (have nx := Ext.trans hx hb; clear hx) | (have nx := Ext.trans (hx.alloc _) hb; clear hx) | (have nx := Ext.trans hx.drew hb; clear hx) | have nx := hb); clear hb; try clear hs; try clear g0; try clear g1; have hx := nx; clear nx; have hs := ns; clear ns; have g0 := n0; clear n0; have g1 := n1; clear n1))
      try (go_region_held3 (fun w' => w'.cell? ⟨w.heap.size, 0, none⟩ = some (.int .i64 e) ∧ w'.cell? ⟨w.heap.size, 1, none⟩ = some (.int .i64 f) ∧ w.heap.size < w'.heap.size) ((refine ⟨?_, ?_, ?_⟩ <;> first | with_reducible assumption | ((rw [cell_setRow_far _ _ _ _ _ (by omega)]); with_reducible assumption) | ((rw [setRow_size]); with_reducible assumption) | ((repeat rw [World.cell?_setCell_far _ _ _ _ (by simp)]); with_reducible assumption) | (simp; done) | (simp [World.setCell]; first | done | omega) | (simp [go_sem, World.cell?_alloc_past, World.cell?_setCell_far, *]; done))) ((first | (go_at_call 23; refine (EUB.out _ (fun i hi => (ext_add (a := (⟨b, 0, none⟩ : Addr)) (w := w) Ext.auK h.lt i).trans (hc i hi)) (by first | exact (row_ext h Ext.auK).lt | (simp; have := h.lt; omega))).mono ?_; rintro rv w1 ⟨rfl, hb⟩; have ns : w.heap.size < w1.heap.size := hb.ltK; have n0 : w1.cell? ⟨w.heap.size, 0, none⟩ = some (.int .i64 e) := hb.cellK; have n1 : w1.cell? ⟨w.heap.size, 1, none⟩ = some (.int .i64 f) := hb.cellK; (first | (have nx := Ext.trans hx hb; clear hx) | (have nx := Ext.trans (hx.alloc _) hb; clear hx) | (have nx := Ext.trans hx.drew hb; clear hx) | have nx := hb); clear hb; try clear hs; try clear g0; try clear g1; have hx := nx; clear nx; have hs := ns; clear ns; have g0 := n0; clear n0; have g1 := n1; clear n1) | (go_at_call 22; refine (EO.out _).mono ?_; rintro rv w1 ⟨rfl, hb⟩; have ns : w.heap.size < w1.heap.size := hb.ltK; have n0 : w1.cell? ⟨w.heap.size, 0, none⟩ = some (.int .i64 e) := hb.cellK; have n1 : w1.cell? ⟨w.heap.size, 1, none⟩ = some (.int .i64 f) := hb.cellK; (first | (have nx := Ext.trans hx hb; clear hx) | (have nx := Ext.trans (hx.alloc _) hb; clear hx) | (have nx := Ext.trans hx.drew hb; clear hx) | have nx := hb); clear hb; try clear hs; try clear g0; try clear g1; have hx := nx; clear nx; have hs := ns; clear ns; have g0 := n0; clear n0; have g1 := n1; clear n1))))
      try go_wp2_with (first | (go_at_call 24; refine (EF.out _).mono ?_; rintro rv w1 ⟨rfl, hb⟩; have ns : w.heap.size < w1.heap.size := hb.ltK; have n0 : w1.cell? ⟨w.heap.size, 0, none⟩ = some (.int .i64 e) := hb.cellK; have n1 : w1.cell? ⟨w.heap.size, 1, none⟩ = some (.int .i64 f) := hb.cellK; (first | (have nx := Ext.trans hx hb; clear hx) | (have nx := Ext.trans (hx.alloc _) hb; clear hx) | (have nx := Ext.trans hx.drew hb; clear hx) | have nx := hb); clear hb; try clear hs; try clear g0; try clear g1; have hx := nx; clear nx; have hs := ns; clear ns; have g0 := n0; clear n0; have g1 := n1; clear n1))
      go_ret2
      exact ⟨rfl, Ext.auK⟩
    · rw [if_pos rfl]
      go_enter Tryd.func8, Tryd.ntmps8
      go_wp2_with (first | (go_at_call 21; refine (EA.out _ (fun i hi => (ext_add (a := (⟨b, 0, none⟩ : Addr)) (w := w) Ext.auK h.lt i).trans (hc i hi)) (by first | exact (row_ext h Ext.auK).lt | (simp; have := h.lt; omega))).mono ?_; rintro rv w1 ⟨rfl, hb⟩; have ns : w.heap.size < w1.heap.size := hb.ltK; have n0 : w1.cell? ⟨w.heap.size, 0, none⟩ = some (.int .i64 e) := hb.cellK; have n1 : w1.cell? ⟨w.heap.size, 1, none⟩ = some (.int .i64 f) := hb.cellK; (first | (have nx := Ext.trans hx hb; clear hx) | (have nx := Ext.trans (hx.alloc _) hb; clear hx) | (have nx := Ext.trans hx.drew hb; clear hx) | have nx := hb); clear hb; try clear hs; try clear g0; try clear g1; have hx := nx; clear nx; have hs := ns; clear ns; have g0 := n0; clear n0; have g1 := n1; clear n1) | (go_at_call 23; refine (EUB.out _ (fun i hi => (ext_add (a := (⟨b, 0, none⟩ : Addr)) (w := w) Ext.auK h.lt i).trans (hc i hi)) (by first | exact (row_ext h Ext.auK).lt | (simp; have := h.lt; omega))).mono ?_; rintro rv w1 ⟨rfl, hb⟩; have ns : w.heap.size < w1.heap.size := hb.ltK; have n0 : w1.cell? ⟨w.heap.size, 0, none⟩ = some (.int .i64 e) := hb.cellK; have n1 : w1.cell? ⟨w.heap.size, 1, none⟩ = some (.int .i64 f) := hb.cellK; (first | (have nx := Ext.trans hx hb; clear hx) | (have nx := Ext.trans (hx.alloc _) hb; clear hx) | (have nx := Ext.trans hx.drew hb; clear hx) | have nx := hb); clear hb; try clear hs; try clear g0; try clear g1; have hx := nx; clear nx; have hs := ns; clear ns; have g0 := n0; clear n0; have g1 := n1; clear n1) | (go_at_call 22; refine (EO.out _).mono ?_; rintro rv w1 ⟨rfl, hb⟩; have ns : w.heap.size < w1.heap.size := hb.ltK; have n0 : w1.cell? ⟨w.heap.size, 0, none⟩ = some (.int .i64 e) := hb.cellK; have n1 : w1.cell? ⟨w.heap.size, 1, none⟩ = some (.int .i64 f) := hb.cellK; (first | (have nx := Ext.trans hx hb; clear hx) | (have nx := Ext.trans (hx.alloc _) hb; clear hx) | (have nx := Ext.trans hx.drew hb; clear hx) | have nx := hb); clear hb; try clear hs; try clear g0; try clear g1; have hx := nx; clear nx; have hs := ns; clear ns; have g0 := n0; clear n0; have g1 := n1; clear n1) | (go_at_call 24; refine (EF.out _).mono ?_; rintro rv w1 ⟨rfl, hb⟩; have ns : w.heap.size < w1.heap.size := hb.ltK; have n0 : w1.cell? ⟨w.heap.size, 0, none⟩ = some (.int .i64 e) := hb.cellK; have n1 : w1.cell? ⟨w.heap.size, 1, none⟩ = some (.int .i64 f) := hb.cellK; (first | (have nx := Ext.trans hx hb; clear hx) | (have nx := Ext.trans (hx.alloc _) hb; clear hx) | (have nx := Ext.trans hx.drew hb; clear hx) | have nx := hb); clear hb; try clear hs; try clear g0; try clear g1; have hx := nx; clear nx; have hs := ns; clear ns; have g0 := n0; clear n0; have g1 := n1; clear n1))
      try (go_region_held3 (fun w' => w'.cell? ⟨w.heap.size, 0, none⟩ = some (.int .i64 e) ∧ w'.cell? ⟨w.heap.size, 1, none⟩ = some (.int .i64 f) ∧ w.heap.size < w'.heap.size) ((refine ⟨?_, ?_, ?_⟩ <;> first | with_reducible assumption | ((rw [cell_setRow_far _ _ _ _ _ (by omega)]); with_reducible assumption) | ((rw [setRow_size]); with_reducible assumption) | ((repeat rw [World.cell?_setCell_far _ _ _ _ (by simp)]); with_reducible assumption) | (simp; done) | (simp [World.setCell]; first | done | omega) | (simp [go_sem, World.cell?_alloc_past, World.cell?_setCell_far, *]; done))) ((first | (go_at_call 23; refine (EUB.out _ (fun i hi => (ext_add (a := (⟨b, 0, none⟩ : Addr)) (w := w) Ext.auK h.lt i).trans (hc i hi)) (by first | exact (row_ext h Ext.auK).lt | (simp; have := h.lt; omega))).mono ?_; rintro rv w1 ⟨rfl, hb⟩; have ns : w.heap.size < w1.heap.size := hb.ltK; have n0 : w1.cell? ⟨w.heap.size, 0, none⟩ = some (.int .i64 e) := hb.cellK; have n1 : w1.cell? ⟨w.heap.size, 1, none⟩ = some (.int .i64 f) := hb.cellK; (first | (have nx := Ext.trans hx hb; clear hx) | (have nx := Ext.trans (hx.alloc _) hb; clear hx) | (have nx := Ext.trans hx.drew hb; clear hx) | have nx := hb); clear hb; try clear hs; try clear g0; try clear g1; have hx := nx; clear nx; have hs := ns; clear ns; have g0 := n0; clear n0; have g1 := n1; clear n1) | (go_at_call 22; refine (EO.out _).mono ?_; rintro rv w1 ⟨rfl, hb⟩; have ns : w.heap.size < w1.heap.size := hb.ltK; have n0 : w1.cell? ⟨w.heap.size, 0, none⟩ = some (.int .i64 e) := hb.cellK; have n1 : w1.cell? ⟨w.heap.size, 1, none⟩ = some (.int .i64 f) := hb.cellK; (first | (have nx := Ext.trans hx hb; clear hx) | (have nx := Ext.trans (hx.alloc _) hb; clear hx) | (have nx := Ext.trans hx.drew hb; clear hx) | have nx := hb); clear hb; try clear hs; try clear g0; try clear g1; have hx := nx; clear nx; have hs := ns; clear ns; have g0 := n0; clear n0; have g1 := n1; clear n1))))
      try go_wp2_with (first | (go_at_call 24; refine (EF.out _).mono ?_; rintro rv w1 ⟨rfl, hb⟩; have ns : w.heap.size < w1.heap.size := hb.ltK; have n0 : w1.cell? ⟨w.heap.size, 0, none⟩ = some (.int .i64 e) := hb.cellK; have n1 : w1.cell? ⟨w.heap.size, 1, none⟩ = some (.int .i64 f) := hb.cellK; (first | (have nx := Ext.trans hx hb; clear hx) | (have nx := Ext.trans (hx.alloc _) hb; clear hx) | (have nx := Ext.trans hx.drew hb; clear hx) | have nx := hb); clear hb; try clear hs; try clear g0; try clear g1; have hx := nx; clear nx; have hs := ns; clear ns; have g0 := n0; clear n0; have g1 := n1; clear n1))
      go_ret2
      exact ⟨rfl, Ext.auK⟩

set_option maxHeartbeats 3200000 in
theorem wRoundedSum (e f : Int) (p : Option Addr) (n cap : Nat) (V : Nat → Int) (w : World) (hold : HoldsL w p n V) (hT : TW w) : Calls Tryd.prog 3 #[fmt e f, .slice p n cap] w fun rv w' => rv = .returned (.bool true) ∧ Ext w w' := by
  by_cases hn : n ≤ 1048576
  · have h12 : ¬ (1048576 : Int) < (n : Int) := by omega
    have SA := Lib.hid (fun b w h => sRoundedSum_row e f V b n w h)
    have IA := Lib.hid (fun b w h hT => iRoundedSum_row e f V b n w h hT)
    generalize rsV e f V n = N at *
    generalize rsB e f V n = B at *
    cases B
    all_goals
      go_enter Tryd.func3, Tryd.ntmps3
      go_wp2_with (first | (go_at_call 9; refine (toFormat_any e f _).mono ?_; rintro rv w1 ⟨rfl, hb⟩; (try (have Q9 := Lib.hid (row_ext Q.out (Ext.trans Ext.auK hb)); clear Q; have Q := Q9; clear Q9)); (try (have R9 := Lib.hid (row_ext R.out (Ext.trans Ext.auK hb)); clear R; have R := R9; clear R9)); have ns : w.heap.size < w1.heap.size := hb.ltK; have n0 : w1.cell? ⟨w.heap.size, 0, none⟩ = some (.int .i64 e) := hb.cellK; have n1 : w1.cell? ⟨w.heap.size, 1, none⟩ = some (.int .i64 f) := hb.cellK; (first | (have nx := Ext.trans hx hb; clear hx) | (have nx := Ext.trans (hx.alloc _) hb; clear hx) | (have nx := Ext.trans hx.drew hb; clear hx) | have nx := hb); clear hb; try clear hs; try clear g0; try clear g1; have hx := nx; clear nx; have hs := ns; clear ns; have g0 := n0; clear n0; have g1 := n1; clear n1) | (go_at_call 10; refine (toIntS_any p n cap V hn _ (hold.ext Ext.auK)).mono ?_; rintro rv w1 ⟨b, rfl, hq, hrow, hb⟩; (try clear Q); (try (have Q := Lib.hid (row_ext R.out (Ext.trans Ext.auK hb)); clear R)); have R := Lib.hid hrow; clear hrow hq; have ns : w.heap.size < w1.heap.size := hb.ltK; have n0 : w1.cell? ⟨w.heap.size, 0, none⟩ = some (.int .i64 e) := hb.cellK; have n1 : w1.cell? ⟨w.heap.size, 1, none⟩ = some (.int .i64 f) := hb.cellK; (first | (have nx := Ext.trans hx hb; clear hx) | (have nx := Ext.trans (hx.alloc _) hb; clear hx) | (have nx := Ext.trans hx.drew hb; clear hx) | have nx := hb); clear hb; try clear hs; try clear g0; try clear g1; have hx := nx; clear nx; have hs := ns; clear ns; have g0 := n0; clear n0; have g1 := n1; clear n1) | (go_at_call 8; refine (SA.out _ _ (row_ext R.out Ext.auK)).mono ?_; rintro rv w1 ⟨rfl, hb⟩; (try (have Q9 := Lib.hid (row_ext Q.out (Ext.trans Ext.auK hb)); clear Q; have Q := Q9; clear Q9)); (try (have R9 := Lib.hid (row_ext R.out (Ext.trans Ext.auK hb)); clear R; have R := R9; clear R9)); have ns : w.heap.size < w1.heap.size := hb.ltK; have n0 : w1.cell? ⟨w.heap.size, 0, none⟩ = some (.int .i64 e) := hb.cellK; have n1 : w1.cell? ⟨w.heap.size, 1, none⟩ = some (.int .i64 f) := hb.cellK; (first | (have nx := Ext.trans hx hb; clear hx) | (have nx := Ext.trans (hx.alloc _) hb; clear hx) | (have nx := Ext.trans hx.drew hb; clear hx) | have nx := hb); clear hb; try clear hs; try clear g0; try clear g1; have hx := nx; clear nx; have hs := ns; clear ns; have g0 := n0; clear n0; have g1 := n1; clear n1) | (go_at_call 11; refine (IA.out _ _ (row_ext R.out Ext.auK) (hT.ext Ext.auK)).mono ?_; rintro rv w1 ⟨rfl, hb⟩; (try (have Q9 := Lib.hid (row_ext Q.out (Ext.trans Ext.auK hb)); clear Q; have Q := Q9; clear Q9)); (try (have R9 := Lib.hid (row_ext R.out (Ext.trans Ext.auK hb)); clear R; have R := R9; clear R9)); have ns : w.heap.size < w1.heap.size := hb.ltK; have n0 : w1.cell? ⟨w.heap.size, 0, none⟩ = some (.int .i64 e) := hb.cellK; have n1 : w1.cell? ⟨w.heap.size, 1, none⟩ = some (.int .i64 f) := hb.cellK; (first | (have nx := Ext.trans hx hb; clear hx) | (have nx := Ext.trans (hx.alloc _) hb; clear hx) | (have nx := Ext.trans hx.drew hb; clear hx) | have nx := hb); clear hb; try clear hs; try clear g0; try clear g1; have hx := nx; clear nx; have hs := ns; clear ns; have g0 := n0; clear n0; have g1 := n1; clear n1) | (go_at_call 12; refine (eqIntS_same _ _ n n n V hn _ (row_ext Q.out Ext.auK) (row_ext R.out Ext.auK)).mono ?_; rintro rv w1 ⟨rfl, hb⟩; have ns : w.heap.size < w1.heap.size := hb.ltK; have n0 : w1.cell? ⟨w.heap.size, 0, none⟩ = some (.int .i64 e) := hb.cellK; have n1 : w1.cell? ⟨w.heap.size, 1, none⟩ = some (.int .i64 f) := hb.cellK; (first | (have nx := Ext.trans hx hb; clear hx) | (have nx := Ext.trans (hx.alloc _) hb; clear hx) | (have nx := Ext.trans hx.drew hb; clear hx) | have nx := hb); clear hb; try clear hs; try clear g0; try clear g1; have hx := nx; clear nx; have hs := ns; clear ns; have g0 := n0; clear n0; have g1 := n1; clear n1))
      go_ret
      exact ⟨rfl, Ext.auK⟩
  · have h12 : (1048576 : Int) < (n : Int) := by omega
    go_enter Tryd.func3, Tryd.ntmps3
    go_wp2_with fail
    go_ret
    exact ⟨rfl, Ext.auK⟩
end Go.Proofs.YtjebechmedhidaaDoor

