/-
  Contracts of the functions that the laws reach, and the plain facts that they rest on, each under the conditions that its line names; part 26.
-/
import Derived.Test.YtdagfocpbnamfaaKbw1
import Derived.Test.YtdagfocpbnamfaaKbw2
import Derived.Test.YtdagfocpbnamfaaKbw3
import Derived.Test.YtdagfocpbnamfaaKbw4
import Derived.Test.YtdagfocpbnamfaaKbw5
import Derived.Test.YtdagfocpbnamfaaKbw6
import Derived.Test.YtdagfocpbnamfaaKbw7
import Derived.Test.YtdagfocpbnamfaaKbw8
import Derived.Test.YtdagfocpbnamfaaKbw9
import Derived.Test.YtdagfocpbnamfaaKbw10
import Derived.Test.YtdagfocpbnamfaaKbw11
import Derived.Test.YtdagfocpbnamfaaKbw12
import Derived.Test.YtdagfocpbnamfaaKbw13
import Derived.Test.YtdagfocpbnamfaaKbw14
import Derived.Test.YtdagfocpbnamfaaKbw15
import Derived.Test.YtdagfocpbnamfaaKbw16
import Derived.Test.YtdagfocpbnamfaaKbw17
import Derived.Test.YtdagfocpbnamfaaKbw18
import Derived.Test.YtdagfocpbnamfaaKbw19
import Derived.Test.YtdagfocpbnamfaaKbw20
import Derived.Test.YtdagfocpbnamfaaKbw21
import Derived.Test.YtdagfocpbnamfaaKbw22
import Derived.Test.YtdagfocpbnamfaaKbw23
import Derived.Test.YtdagfocpbnamfaaKbw24
import Derived.Test.YtdagfocpbnamfaaKbw25
import Derived.Test.YtdagfocpbnamfaaRows
import Derived.WalkKit
import Derived.LoopTactic
import Derived.LoopN
import Derived.Laws.OwnMore
import Derived.OwnWalk
import Derived.Deep.AppendLies
import Derived.Deep.RegionLaw
import Derived.Deep.LoopGhost
import Derived.Deep.OwnRows
import Derived.Laws.Bits64b
import Derived.WalkSpells
import Derived.WalkLawsBesides
import Derived.StillTactics
import Derived.Laws.Pointers
import Derived.Deep.RegionHeld3
import Derived.Deep.QuietTactic
import Derived.BigQuiet
import Derived.Outline
import Derived.Lib.Hide
import Derived.RowKit3
import Derived.Carry
import Derived.IntWalk
namespace Go.Proofs.Ytdagfocpbnamfaa
open Go Go.RowKit
set_option linter.unusedSimpArgs false
set_option linter.unusedVariables false
set_option maxRecDepth 100000

theorem frozen_alloc_before (w : World) (o : Obj) (b i : Nat) (h : b < w.heap.size) : (w.alloc o).frozen? ⟨b, i, none⟩ = w.frozen? ⟨b, i, none⟩ :=
  World.frozen?_of_block ((Ext.refl w).alloc o |>.block b h)

/-- What the model makes of a rounded number. -/
theorem bl_clip (e f n d mode s : Int) (hg : goodB e f = true) (hq : RndD e f (n.natAbs : Int) (d - unV e f) mode (decide (n < 0)) s) :
    (∀ w, Calls Try.prog 141 #[fmt e f, .int .i64 (sgP e f n s)] w fun rv w' => rv = .returned (.int .i64 (rfV e f n (d - unV e f) mode)) ∧ Ext w w') ∧ True := by
  obtain ⟨hs, s0, s1⟩ := rq_eq hg hq
  refine ⟨fun w => ?_, trivial⟩
  have := blClip_sg e f n s hg s0 s1 w
  unfold rfV
  rw [← hs]
  exact this

set_option maxHeartbeats 6400000 in
theorem iput_own (e f P mode : Int) (V : Nat → Int) (Q : Nat → Int) (bb n : Nat) (hg : goodB e f = true) (hr : rawB V n = true) (p0 : -40 ≤ P) (p1 : P ≤ 40) (m0 : 0 ≤ mode) (m1 : mode ≤ 5) (hQ : ∀ k, Q k = rfV e f (V k) (-P - unV e f) mode) (w : World) (h : w.rowIs bb 3 n (fun i => .int .i64 (V i))) :
    Calls Try.prog 86 #[fmt e f, .slice (some ⟨bb, 0, none⟩) n n, .int .i64 P, .int .i64 mode] w fun rv w' => ∃ v, rv = .returned (.agg #[.int .i64 P, v]) ∧ w'.ownsRow (w.heap.size + 1 + 1 + 1) 3 1 v n (patL Q n) ∧ Ext w w' := by
  obtain ⟨i, hi0⟩ := Option.isSome_iff_exists.1 (show (Try.prog.info? 3).isSome = true by kernel_rfl)
  have hi1 := info_int
  rw [hi0] at hi1
  simp only [Option.map_some, Option.some.injEq, Prod.mk.injEq] at hi1
  have HI := Lib.hid hi0
  have HZ := Lib.hid hi1.1
  have HSZ := Lib.hid hi1.2.1
  have HBY := Lib.hid hi1.2.2
  clear hi0 hi1
  obtain ⟨hn, hA⟩ := raw_iff.1 hr
  have ub := un_bd hg
  have HH := Lib.hid h
  have HQQ := Lib.hid hQ
  have kp : IntKind.i64.wrap (-P) = -P := IntWalk.i64_in _ (by omega)
  clear h hQ hr
  go_enter Try.func86, Try.ntmps86
  go_wp2_with fail
  go_loopw [16] (fun x wr => ∃ (k : Nat) (q : Option Addr) (c : Nat), x = .int .i64 (k : Int) ∧ k ≤ n ∧ wr.ownsRow (w.heap.size + 1 + 1 + 1) 3 1 (.slice q k c) k (patL Q k) ∧ wr.cell? ⟨w.heap.size, 0, none⟩ = some (.int .i64 e) ∧ wr.cell? ⟨w.heap.size, 1, none⟩ = some (.int .i64 f) ∧ wr.cell? ⟨w.heap.size + 1, 0, none⟩ = some (.int .i64 0) ∧ wr.cell? ⟨w.heap.size + 1, 1, none⟩ = some (.slice none 0 0) ∧ wr.cell? ⟨w.heap.size + 1 + 1, 0, none⟩ = some (.int .i64 P) ∧ wr.cell? ⟨w.heap.size + 1 + 1, 1, none⟩ = some (.slice q k c) ∧ wr.frozen? ⟨w.heap.size + 1, 0, none⟩ = false ∧ wr.frozen? ⟨w.heap.size + 1, 1, none⟩ = false ∧ wr.frozen? ⟨w.heap.size + 1 + 1, 0, none⟩ = false ∧ wr.frozen? ⟨w.heap.size + 1 + 1, 1, none⟩ = false ∧ w.heap.size + 1 + 1 < wr.heap.size ∧ Ext w wr) (fun x _ => n - (intOf x).toNat)
  case atStart => exact ⟨0, none, 0, rfl, by omega, World.ownsRow_nil _ _ _ _, (by first | (simp; done) | (simp [go_sem]; done) | (simp [go_sem, *]; done)), (by first | (simp; done) | (simp [go_sem]; done) | (simp [go_sem, *]; done)), (by first | (simp; done) | (simp [go_sem]; done) | (simp [go_sem, *]; done)), (by first | (simp; done) | (simp [go_sem]; done) | (simp [go_sem, *]; done)), (by first | (simp; done) | (simp [go_sem]; done) | (simp [go_sem, *]; done)), (by first | (simp; done) | (simp [go_sem]; done) | (simp [go_sem, *]; done)), (by first | (simp; done) | (simp [go_sem]; done) | (simp [go_sem, *]; done)), (by first | (simp; done) | (simp [go_sem]; done) | (simp [go_sem, *]; done)), (by first | (simp; done) | (simp [go_sem]; done) | (simp [go_sem, *]; done)), (by first | (simp; done) | (simp [go_sem]; done) | (simp [go_sem, *]; done)), (by first | (simp; done) | (simp [go_sem]; done) | (simp [go_sem, *]; done)), (by repeat (first | exact Ext.refl _ | with_reducible assumption | apply Ext.alloc | apply Ext.drew | apply Ext.drewN | (refine Ext.setRow ?_ (by first | (simp; done) | (simp; omega) | omega) _) | (refine Ext.setCell ?_ (by first | (simp; done) | (simp; omega) | omega) _) | (refine Ext.trans ?_ (by with_reducible assumption))))⟩
  case round =>
    obtain ⟨k, q, c, rfl, hk, OWN0, g0, g1, g2, g3, g4, g5, z0, z1, z2, z3, hs, hx⟩ := hrel
    have OWN := Lib.hid OWN0; clear OWN0
    by_cases hlt : k < n
    · have hlt2 : k < n := hlt
      have h1 : ((k : Nat) : Int) < (n : Int) := by omega
      have h0 : (0 : Int) ≤ (k : Int) := by omega
      have h2 : ((k : Int)).toNat = k := by omega
      have u1 : IntKind.i64.wrap ((k : Int) + 1) = (k : Int) + 1 := IntWalk.i64_in _ (by omega)
      have ga : wr.cell? ⟨bb, k, none⟩ = some (.int .i64 (V k)) := (row_ext HH.out hx).cell hlt2
      have i2 := allR_at hA k hlt
      have RFC := Lib.hid (fun w => roundFinite_any e f (V k) (-P) mode hg (by omega) (by omega) (by omega) (by omega) m0 m1 w)
      have HQK := Lib.hid (HQQ.out k)
      generalize hqk : Q k = qk at *
      have HK := Lib.hid hqk
      have HQ2 : RowKit.Hid (rfV e f (V k) (-P - unV e f) mode = qk) := Lib.hid (by rw [← HQK.out])
      clear hqk HQK i2
      rw [HQ2.out] at RFC
      generalize V k = vk at *
      go_wp2_with fail
      go_region_law ((first | (go_simp; go_at_call 144; refine (RFC.out _).mono ?_; rintro rv w1 ⟨rfl, hb⟩; have OWN9 := Lib.hid (own_ext OWN.out (Ext.trans (by repeat (first | exact Ext.refl _ | with_reducible assumption | apply Ext.alloc | apply Ext.drew | apply Ext.drewN | (refine Ext.setRow ?_ (by first | (simp; done) | (simp; omega) | omega) _) | (refine Ext.setCell ?_ (by first | (simp; done) | (simp; omega) | omega) _) | (refine Ext.trans ?_ (by with_reducible assumption)))) hb)); clear OWN; have OWN := OWN9; clear OWN9; have ns : w.heap.size + 1 + 1 < w1.heap.size := hb.lt (by first | with_reducible assumption | omega | (simp; done) | (simp; omega)); have n0 : w1.cell? ⟨w.heap.size, 0, none⟩ = some (.int .i64 e) := (hb.cells _ _ (by first | with_reducible assumption | omega | (simp; done) | (simp; omega))).trans (by first | with_reducible assumption | (simp; done) | (simp; with_reducible assumption) | (rw [cell_alloc_before _ _ _ _ (by omega)]; with_reducible assumption) | (simp [go_sem, *]; done)); have n1 : w1.cell? ⟨w.heap.size, 1, none⟩ = some (.int .i64 f) := (hb.cells _ _ (by first | with_reducible assumption | omega | (simp; done) | (simp; omega))).trans (by first | with_reducible assumption | (simp; done) | (simp; with_reducible assumption) | (rw [cell_alloc_before _ _ _ _ (by omega)]; with_reducible assumption) | (simp [go_sem, *]; done)); have n2 : w1.cell? ⟨w.heap.size + 1, 0, none⟩ = some (.int .i64 0) := (hb.cells _ _ (by first | with_reducible assumption | omega | (simp; done) | (simp; omega))).trans (by first | with_reducible assumption | (simp; done) | (simp; with_reducible assumption) | (rw [cell_alloc_before _ _ _ _ (by omega)]; with_reducible assumption) | (simp [go_sem, *]; done)); have n3 : w1.cell? ⟨w.heap.size + 1, 1, none⟩ = some (.slice none 0 0) := (hb.cells _ _ (by first | with_reducible assumption | omega | (simp; done) | (simp; omega))).trans (by first | with_reducible assumption | (simp; done) | (simp; with_reducible assumption) | (rw [cell_alloc_before _ _ _ _ (by omega)]; with_reducible assumption) | (simp [go_sem, *]; done)); have n4 : w1.cell? ⟨w.heap.size + 1 + 1, 0, none⟩ = some (.int .i64 P) := (hb.cells _ _ (by first | with_reducible assumption | omega | (simp; done) | (simp; omega))).trans (by first | with_reducible assumption | (simp; done) | (simp; with_reducible assumption) | (rw [cell_alloc_before _ _ _ _ (by omega)]; with_reducible assumption) | (simp [go_sem, *]; done)); have n5 : w1.cell? ⟨w.heap.size + 1 + 1, 1, none⟩ = some (.slice q k c) := (hb.cells _ _ (by first | with_reducible assumption | omega | (simp; done) | (simp; omega))).trans (by first | with_reducible assumption | (simp; done) | (simp; with_reducible assumption) | (rw [cell_alloc_before _ _ _ _ (by omega)]; with_reducible assumption) | (simp [go_sem, *]; done)); have nz0 : w1.frozen? ⟨w.heap.size + 1, 0, none⟩ = false := (hb.frz _ _ (by first | with_reducible assumption | omega | (simp; done) | (simp; omega))).trans (by first | with_reducible assumption | (simp [go_sem]; done) | (simp [go_sem]; with_reducible assumption)); have nz1 : w1.frozen? ⟨w.heap.size + 1, 1, none⟩ = false := (hb.frz _ _ (by first | with_reducible assumption | omega | (simp; done) | (simp; omega))).trans (by first | with_reducible assumption | (simp [go_sem]; done) | (simp [go_sem]; with_reducible assumption)); have nz2 : w1.frozen? ⟨w.heap.size + 1 + 1, 0, none⟩ = false := (hb.frz _ _ (by first | with_reducible assumption | omega | (simp; done) | (simp; omega))).trans (by first | with_reducible assumption | (simp [go_sem]; done) | (simp [go_sem]; with_reducible assumption)); have nz3 : w1.frozen? ⟨w.heap.size + 1 + 1, 1, none⟩ = false := (hb.frz _ _ (by first | with_reducible assumption | omega | (simp; done) | (simp; omega))).trans (by first | with_reducible assumption | (simp [go_sem]; done) | (simp [go_sem]; with_reducible assumption)); (first | (have nx := Ext.trans hx hb; clear hx) | (have nx := Ext.trans (hx.alloc _) hb; clear hx) | (have nx := Ext.trans hx.drew hb; clear hx) | have nx := hb); clear hb; try clear hs; try clear g0; try clear g1; try clear g2; try clear g3; try clear g4; try clear g5; try clear z0; try clear z1; try clear z2; try clear z3; have hx := nx; clear nx; have hs := ns; clear ns; have g0 := n0; clear n0; have g1 := n1; clear n1; have g2 := n2; clear n2; have g3 := n3; clear n3; have g4 := n4; clear n4; have g5 := n5; clear n5; have z0 := nz0; clear nz0; have z1 := nz1; clear nz1; have z2 := nz2; clear nz2; have z3 := nz3; clear nz3) | ((refine step_append_lies _ rfl (.tmp 21) (.tmp 28) 24 rfl (w.heap.size + 1 + 1 + 1) 3 i (.int .i64 0) 1 8 Try.underlying24 HI.out HZ.out HSZ.out HBY.out rfl (by decide) (.slice q k c) k (patL Q k) rfl (own_ext OWN.out (by repeat (first | exact Ext.refl _ | apply Ext.alloc | apply Ext.drew))) _ 1 1 [.int .i64 qk] rfl rfl (fun j u hj => by cases j with | zero => (simp at hj; subst hj; simp [go_sem, Addr.add]) | succ j => simp at hj) (by simp [Value.oneCell']) (by decide) (by simp [maxLen]; omega) (by omega) (by simp; omega) _ rfl ?_); intro g cap w9 OWN8 hgr hat hlt9; have hne : ∀ j, j < (w.heap.size + 1 + 1 + 1) → some j ≠ (Value.slice q k c).ownBlock := fun j hk h => (by have := (World.ownsRow.lt OWN.out _ h.symm).1; omega); have c0 : w9.cell? ⟨w.heap.size, 0, none⟩ = some (.int .i64 e) := hgr.cell ((cell_alloc_before _ _ (w.heap.size) 0 (by omega)).trans (by with_reducible assumption)) (hne (w.heap.size) (by omega)); have c1 : w9.cell? ⟨w.heap.size, 1, none⟩ = some (.int .i64 f) := hgr.cell ((cell_alloc_before _ _ (w.heap.size) 1 (by omega)).trans (by with_reducible assumption)) (hne (w.heap.size) (by omega)); have c2 : w9.cell? ⟨w.heap.size + 1, 0, none⟩ = some (.int .i64 0) := hgr.cell ((cell_alloc_before _ _ (w.heap.size + 1) 0 (by omega)).trans (by with_reducible assumption)) (hne (w.heap.size + 1) (by omega)); have c3 : w9.cell? ⟨w.heap.size + 1, 1, none⟩ = some (.slice none 0 0) := hgr.cell ((cell_alloc_before _ _ (w.heap.size + 1) 1 (by omega)).trans (by with_reducible assumption)) (hne (w.heap.size + 1) (by omega)); have c4 : w9.cell? ⟨w.heap.size + 1 + 1, 0, none⟩ = some (.int .i64 P) := hgr.cell ((cell_alloc_before _ _ (w.heap.size + 1 + 1) 0 (by omega)).trans (by with_reducible assumption)) (hne (w.heap.size + 1 + 1) (by omega)); have c5 : w9.cell? ⟨w.heap.size + 1 + 1, 1, none⟩ = some (.slice q k c) := hgr.cell ((cell_alloc_before _ _ (w.heap.size + 1 + 1) 1 (by omega)).trans (by with_reducible assumption)) (hne (w.heap.size + 1 + 1) (by omega)); have d0 : w9.frozen? ⟨w.heap.size + 1, 0, none⟩ = false := (hgr.frozen_far _ (by simp; omega) (hne (w.heap.size + 1) (by omega))).trans (by first | with_reducible assumption | (rw [frozen_alloc_before _ _ _ _ (by omega)]; with_reducible assumption) | (simp [go_sem, *]; done)); have d1 : w9.frozen? ⟨w.heap.size + 1, 1, none⟩ = false := (hgr.frozen_far _ (by simp; omega) (hne (w.heap.size + 1) (by omega))).trans (by first | with_reducible assumption | (rw [frozen_alloc_before _ _ _ _ (by omega)]; with_reducible assumption) | (simp [go_sem, *]; done)); have d2 : w9.frozen? ⟨w.heap.size + 1 + 1, 0, none⟩ = false := (hgr.frozen_far _ (by simp; omega) (hne (w.heap.size + 1 + 1) (by omega))).trans (by first | with_reducible assumption | (rw [frozen_alloc_before _ _ _ _ (by omega)]; with_reducible assumption) | (simp [go_sem, *]; done)); have d3 : w9.frozen? ⟨w.heap.size + 1 + 1, 1, none⟩ = false := (hgr.frozen_far _ (by simp; omega) (hne (w.heap.size + 1 + 1) (by omega))).trans (by first | with_reducible assumption | (rw [frozen_alloc_before _ _ _ _ (by omega)]; with_reducible assumption) | (simp [go_sem, *]; done)); have hs9 : w.heap.size + 1 + 1 < w9.heap.size := (by have h := hgr.size; rw [World.size_alloc] at h; omega); have hx9 : Ext w w9 := ext_grown (by repeat (first | exact Ext.refl _ | with_reducible assumption | apply Ext.alloc | apply Ext.drew | apply Ext.drewN | (refine Ext.setRow ?_ (by first | (simp; done) | (simp; omega) | omega) _) | (refine Ext.setCell ?_ (by first | (simp; done) | (simp; omega) | omega) _) | (refine Ext.trans ?_ (by with_reducible assumption)))) hgr (fun k hk => by have := (World.ownsRow.lt OWN.out k hk).1; omega); have OWN7 : RowKit.Hid (w9.ownsRow (w.heap.size + 1 + 1 + 1) 3 1 (.slice (some ⟨g, 0, none⟩) (k + 1) cap) (k + 1) (patL Q k ++ [.int .i64 qk])) := OWN8; clear OWN OWN8 hne hgr hat; have OWN := OWN7; clear OWN7)))
      all_goals (try go_wp2_with fail)
      all_goals go_roundw

      all_goals first | (simp [intOf]; omega) | exact ⟨k + 1, some ⟨g, 0, none⟩, cap, by simp, by omega, (by rw [patL_succ, HK.out]; exact ownsRow_setCell_below OWN.out (by simp) _), (by first | with_reducible assumption | (simp [go_sem, *]; done) | ((repeat first | rw [cell_set_far _ _ _ _ _ _ (by omega)] | rw [World.cell?_setCell_far _ _ _ _ (by simp)]); first | with_reducible assumption | (simp [go_sem, *]; done)) | (simp [go_sem, World.setCell, *]; done)), (by first | with_reducible assumption | (simp [go_sem, *]; done) | ((repeat first | rw [cell_set_far _ _ _ _ _ _ (by omega)] | rw [World.cell?_setCell_far _ _ _ _ (by simp)]); first | with_reducible assumption | (simp [go_sem, *]; done)) | (simp [go_sem, World.setCell, *]; done)), (by first | with_reducible assumption | (simp [go_sem, *]; done) | ((repeat first | rw [cell_set_far _ _ _ _ _ _ (by omega)] | rw [World.cell?_setCell_far _ _ _ _ (by simp)]); first | with_reducible assumption | (simp [go_sem, *]; done)) | (simp [go_sem, World.setCell, *]; done)), (by first | with_reducible assumption | (simp [go_sem, *]; done) | ((repeat first | rw [cell_set_far _ _ _ _ _ _ (by omega)] | rw [World.cell?_setCell_far _ _ _ _ (by simp)]); first | with_reducible assumption | (simp [go_sem, *]; done)) | (simp [go_sem, World.setCell, *]; done)), (by first | with_reducible assumption | (simp [go_sem, *]; done) | ((repeat first | rw [cell_set_far _ _ _ _ _ _ (by omega)] | rw [World.cell?_setCell_far _ _ _ _ (by simp)]); first | with_reducible assumption | (simp [go_sem, *]; done)) | (simp [go_sem, World.setCell, *]; done)), (by first | with_reducible assumption | (simp [go_sem, *]; done) | ((repeat first | rw [cell_set_far _ _ _ _ _ _ (by omega)] | rw [World.cell?_setCell_far _ _ _ _ (by simp)]); first | with_reducible assumption | (simp [go_sem, *]; done)) | (simp [go_sem, World.setCell, *]; done)), (by first | with_reducible assumption | (simp [go_sem, *]; done) | ((repeat first | rw [cell_set_far _ _ _ _ _ _ (by omega)] | rw [World.cell?_setCell_far _ _ _ _ (by simp)]); first | with_reducible assumption | (simp [go_sem, *]; done)) | (simp [go_sem, World.setCell, *]; done)), (by first | with_reducible assumption | (simp [go_sem, *]; done) | ((repeat first | rw [cell_set_far _ _ _ _ _ _ (by omega)] | rw [World.cell?_setCell_far _ _ _ _ (by simp)]); first | with_reducible assumption | (simp [go_sem, *]; done)) | (simp [go_sem, World.setCell, *]; done)), (by first | with_reducible assumption | (simp [go_sem, *]; done) | ((repeat first | rw [cell_set_far _ _ _ _ _ _ (by omega)] | rw [World.cell?_setCell_far _ _ _ _ (by simp)]); first | with_reducible assumption | (simp [go_sem, *]; done)) | (simp [go_sem, World.setCell, *]; done)), (by first | with_reducible assumption | (simp [go_sem, *]; done) | ((repeat first | rw [cell_set_far _ _ _ _ _ _ (by omega)] | rw [World.cell?_setCell_far _ _ _ _ (by simp)]); first | with_reducible assumption | (simp [go_sem, *]; done)) | (simp [go_sem, World.setCell, *]; done)), (by first | with_reducible assumption | (simp [World.setCell]; done) | (simp [World.setCell]; omega)), (by repeat (first | exact Ext.refl _ | with_reducible assumption | apply Ext.alloc | apply Ext.drew | apply Ext.drewN | (refine Ext.setRow ?_ (by first | (simp; done) | (simp; omega) | omega) _) | (refine Ext.setCell ?_ (by first | (simp; done) | (simp; omega) | omega) _) | (refine Ext.trans ?_ (by with_reducible assumption))))⟩
    · have h1 : ¬ ((k : Nat) : Int) < (n : Int) := by omega
      have hkn : k = n := by omega
      subst hkn
      go_wp2_with fail
      exact bodyPost_ret (v := .agg #[.int .i64 P, .slice q k c]) (by simp [results, Try.results86, go_sem, *]) rfl ⟨_, rfl, ownsRow_setCell_below (ownsRow_setCell_below OWN.out (by simp) _) (by simp) _, (by repeat (first | exact Ext.refl _ | with_reducible assumption | apply Ext.alloc | apply Ext.drew | apply Ext.drewN | (refine Ext.setRow ?_ (by first | (simp; done) | (simp; omega) | omega) _) | (refine Ext.setCell ?_ (by first | (simp; done) | (simp; omega) | omega) _) | (refine Ext.trans ?_ (by with_reducible assumption))))⟩
end Go.Proofs.Ytdagfocpbnamfaa

namespace Go.Proofs.Ytdagfocpbnamfaa
open Go Go.RowKit
set_option linter.unusedSimpArgs false
set_option linter.unusedVariables false
set_option maxRecDepth 100000

set_option maxHeartbeats 6400000 in
theorem sput_own (e f P mode : Int) (V : Nat → Int) (Q : Nat → Int) (bb n : Nat) (hg : goodB e f = true) (hr : rawB V n = true) (p0 : -40 ≤ P) (p1 : P ≤ 40) (m0 : 0 ≤ mode) (m1 : mode ≤ 5) (hQ : ∀ k, Q k = rfV e f (V k) (-P - unV e f) mode) (w : World) (h : w.rowIs bb 3 n (fun i => .int .i64 (V i))) :
    Calls Try.prog 83 #[fmt e f, .slice (some ⟨bb, 0, none⟩) n n, .int .i64 P, .int .i64 mode] w fun rv w' => ∃ v, rv = .returned (.agg #[.int .i64 P, v]) ∧ w'.ownsRow (w.heap.size + 1 + 1 + 1) 3 1 v n (patL Q n) ∧ Ext w w' := by
  obtain ⟨i, hi0⟩ := Option.isSome_iff_exists.1 (show (Try.prog.info? 3).isSome = true by kernel_rfl)
  have hi1 := info_int
  rw [hi0] at hi1
  simp only [Option.map_some, Option.some.injEq, Prod.mk.injEq] at hi1
  have HI := Lib.hid hi0
  have HZ := Lib.hid hi1.1
  have HSZ := Lib.hid hi1.2.1
  have HBY := Lib.hid hi1.2.2
  clear hi0 hi1
  obtain ⟨hn, hA⟩ := raw_iff.1 hr
  have ub := un_bd hg
  have HH := Lib.hid h
  have HQQ := Lib.hid hQ
  have kp : IntKind.i64.wrap (-P) = -P := IntWalk.i64_in _ (by omega)
  clear h hQ hr
  go_enter Try.func83, Try.ntmps83
  go_wp2_with fail
  go_loopw [16] (fun x wr => ∃ (k : Nat) (q : Option Addr) (c : Nat), x = .int .i64 (k : Int) ∧ k ≤ n ∧ wr.ownsRow (w.heap.size + 1 + 1 + 1) 3 1 (.slice q k c) k (patL Q k) ∧ wr.cell? ⟨w.heap.size, 0, none⟩ = some (.int .i64 e) ∧ wr.cell? ⟨w.heap.size, 1, none⟩ = some (.int .i64 f) ∧ wr.cell? ⟨w.heap.size + 1, 0, none⟩ = some (.int .i64 0) ∧ wr.cell? ⟨w.heap.size + 1, 1, none⟩ = some (.slice none 0 0) ∧ wr.cell? ⟨w.heap.size + 1 + 1, 0, none⟩ = some (.int .i64 P) ∧ wr.cell? ⟨w.heap.size + 1 + 1, 1, none⟩ = some (.slice q k c) ∧ wr.frozen? ⟨w.heap.size + 1, 0, none⟩ = false ∧ wr.frozen? ⟨w.heap.size + 1, 1, none⟩ = false ∧ wr.frozen? ⟨w.heap.size + 1 + 1, 0, none⟩ = false ∧ wr.frozen? ⟨w.heap.size + 1 + 1, 1, none⟩ = false ∧ w.heap.size + 1 + 1 < wr.heap.size ∧ Ext w wr) (fun x _ => n - (intOf x).toNat)
  case atStart => exact ⟨0, none, 0, rfl, by omega, World.ownsRow_nil _ _ _ _, (by first | (simp; done) | (simp [go_sem]; done) | (simp [go_sem, *]; done)), (by first | (simp; done) | (simp [go_sem]; done) | (simp [go_sem, *]; done)), (by first | (simp; done) | (simp [go_sem]; done) | (simp [go_sem, *]; done)), (by first | (simp; done) | (simp [go_sem]; done) | (simp [go_sem, *]; done)), (by first | (simp; done) | (simp [go_sem]; done) | (simp [go_sem, *]; done)), (by first | (simp; done) | (simp [go_sem]; done) | (simp [go_sem, *]; done)), (by first | (simp; done) | (simp [go_sem]; done) | (simp [go_sem, *]; done)), (by first | (simp; done) | (simp [go_sem]; done) | (simp [go_sem, *]; done)), (by first | (simp; done) | (simp [go_sem]; done) | (simp [go_sem, *]; done)), (by first | (simp; done) | (simp [go_sem]; done) | (simp [go_sem, *]; done)), (by first | (simp; done) | (simp [go_sem]; done) | (simp [go_sem, *]; done)), (by repeat (first | exact Ext.refl _ | with_reducible assumption | apply Ext.alloc | apply Ext.drew | apply Ext.drewN | (refine Ext.setRow ?_ (by first | (simp; done) | (simp; omega) | omega) _) | (refine Ext.setCell ?_ (by first | (simp; done) | (simp; omega) | omega) _) | (refine Ext.trans ?_ (by with_reducible assumption))))⟩
  case round =>
    obtain ⟨k, q, c, rfl, hk, OWN0, g0, g1, g2, g3, g4, g5, z0, z1, z2, z3, hs, hx⟩ := hrel
    have OWN := Lib.hid OWN0; clear OWN0
    by_cases hlt : k < n
    · have hlt2 : k < n := hlt
      have h1 : ((k : Nat) : Int) < (n : Int) := by omega
      have h0 : (0 : Int) ≤ (k : Int) := by omega
      have h2 : ((k : Int)).toNat = k := by omega
      have u1 : IntKind.i64.wrap ((k : Int) + 1) = (k : Int) + 1 := IntWalk.i64_in _ (by omega)
      have ga : wr.cell? ⟨bb, k, none⟩ = some (.int .i64 (V k)) := (row_ext HH.out hx).cell hlt2
      have i2 := allR_at hA k hlt
      have SHC := Lib.hid (fun w => rdShort_any (V k) (-P) (by omega) (by omega) (by omega) (by omega) w)
      have RDC := Lib.hid (fun w => rdRound_short e f (V k) (-P) mode hg (by omega) (by omega) (by omega) (by omega) m0 m1 w)
      have BLC := Lib.hid (fun s hq => bl_clip e f (V k) (-P) mode s hg hq)
      have HQK := Lib.hid (HQQ.out k)
      generalize hqk : Q k = qk at *
      have HK := Lib.hid hqk
      have HQ2 : RowKit.Hid (rfV e f (V k) (-P - unV e f) mode = qk) := Lib.hid (by rw [← HQK.out])
      clear hqk HQK i2
      rw [HQ2.out] at BLC
      generalize V k = vk at *
      go_wp2_with fail
      go_region_law ((first | (go_simp; go_at_call 143; refine (SHC.out _).mono ?_; rintro rv w1 ⟨rfl, hb⟩; have OWN9 := Lib.hid (own_ext OWN.out (Ext.trans (by repeat (first | exact Ext.refl _ | with_reducible assumption | apply Ext.alloc | apply Ext.drew | apply Ext.drewN | (refine Ext.setRow ?_ (by first | (simp; done) | (simp; omega) | omega) _) | (refine Ext.setCell ?_ (by first | (simp; done) | (simp; omega) | omega) _) | (refine Ext.trans ?_ (by with_reducible assumption)))) hb)); clear OWN; have OWN := OWN9; clear OWN9; have ns : w.heap.size + 1 + 1 < w1.heap.size := hb.lt (by first | with_reducible assumption | omega | (simp; done) | (simp; omega)); have n0 : w1.cell? ⟨w.heap.size, 0, none⟩ = some (.int .i64 e) := (hb.cells _ _ (by first | with_reducible assumption | omega | (simp; done) | (simp; omega))).trans (by first | with_reducible assumption | (simp; done) | (simp; with_reducible assumption) | (rw [cell_alloc_before _ _ _ _ (by omega)]; with_reducible assumption) | (simp [go_sem, *]; done)); have n1 : w1.cell? ⟨w.heap.size, 1, none⟩ = some (.int .i64 f) := (hb.cells _ _ (by first | with_reducible assumption | omega | (simp; done) | (simp; omega))).trans (by first | with_reducible assumption | (simp; done) | (simp; with_reducible assumption) | (rw [cell_alloc_before _ _ _ _ (by omega)]; with_reducible assumption) | (simp [go_sem, *]; done)); have n2 : w1.cell? ⟨w.heap.size + 1, 0, none⟩ = some (.int .i64 0) := (hb.cells _ _ (by first | with_reducible assumption | omega | (simp; done) | (simp; omega))).trans (by first | with_reducible assumption | (simp; done) | (simp; with_reducible assumption) | (rw [cell_alloc_before _ _ _ _ (by omega)]; with_reducible assumption) | (simp [go_sem, *]; done)); have n3 : w1.cell? ⟨w.heap.size + 1, 1, none⟩ = some (.slice none 0 0) := (hb.cells _ _ (by first | with_reducible assumption | omega | (simp; done) | (simp; omega))).trans (by first | with_reducible assumption | (simp; done) | (simp; with_reducible assumption) | (rw [cell_alloc_before _ _ _ _ (by omega)]; with_reducible assumption) | (simp [go_sem, *]; done)); have n4 : w1.cell? ⟨w.heap.size + 1 + 1, 0, none⟩ = some (.int .i64 P) := (hb.cells _ _ (by first | with_reducible assumption | omega | (simp; done) | (simp; omega))).trans (by first | with_reducible assumption | (simp; done) | (simp; with_reducible assumption) | (rw [cell_alloc_before _ _ _ _ (by omega)]; with_reducible assumption) | (simp [go_sem, *]; done)); have n5 : w1.cell? ⟨w.heap.size + 1 + 1, 1, none⟩ = some (.slice q k c) := (hb.cells _ _ (by first | with_reducible assumption | omega | (simp; done) | (simp; omega))).trans (by first | with_reducible assumption | (simp; done) | (simp; with_reducible assumption) | (rw [cell_alloc_before _ _ _ _ (by omega)]; with_reducible assumption) | (simp [go_sem, *]; done)); have nz0 : w1.frozen? ⟨w.heap.size + 1, 0, none⟩ = false := (hb.frz _ _ (by first | with_reducible assumption | omega | (simp; done) | (simp; omega))).trans (by first | with_reducible assumption | (simp [go_sem]; done) | (simp [go_sem]; with_reducible assumption)); have nz1 : w1.frozen? ⟨w.heap.size + 1, 1, none⟩ = false := (hb.frz _ _ (by first | with_reducible assumption | omega | (simp; done) | (simp; omega))).trans (by first | with_reducible assumption | (simp [go_sem]; done) | (simp [go_sem]; with_reducible assumption)); have nz2 : w1.frozen? ⟨w.heap.size + 1 + 1, 0, none⟩ = false := (hb.frz _ _ (by first | with_reducible assumption | omega | (simp; done) | (simp; omega))).trans (by first | with_reducible assumption | (simp [go_sem]; done) | (simp [go_sem]; with_reducible assumption)); have nz3 : w1.frozen? ⟨w.heap.size + 1 + 1, 1, none⟩ = false := (hb.frz _ _ (by first | with_reducible assumption | omega | (simp; done) | (simp; omega))).trans (by first | with_reducible assumption | (simp [go_sem]; done) | (simp [go_sem]; with_reducible assumption)); (first | (have nx := Ext.trans hx hb; clear hx) | (have nx := Ext.trans (hx.alloc _) hb; clear hx) | (have nx := Ext.trans hx.drew hb; clear hx) | have nx := hb); clear hb; try clear hs; try clear g0; try clear g1; try clear g2; try clear g3; try clear g4; try clear g5; try clear z0; try clear z1; try clear z2; try clear z3; have hx := nx; clear nx; have hs := ns; clear ns; have g0 := n0; clear n0; have g1 := n1; clear n1; have g2 := n2; clear n2; have g3 := n3; clear n3; have g4 := n4; clear n4; have g5 := n5; clear n5; have z0 := nz0; clear nz0; have z1 := nz1; clear nz1; have z2 := nz2; clear nz2; have z3 := nz3; clear nz3) | (go_simp; go_at_call 142; refine (RDC.out _).mono ?_; rintro rv w2 ⟨s, rfl, hq, hb⟩; have OWN9 := Lib.hid (own_ext OWN.out (Ext.trans (by repeat (first | exact Ext.refl _ | with_reducible assumption | apply Ext.alloc | apply Ext.drew | apply Ext.drewN | (refine Ext.setRow ?_ (by first | (simp; done) | (simp; omega) | omega) _) | (refine Ext.setCell ?_ (by first | (simp; done) | (simp; omega) | omega) _) | (refine Ext.trans ?_ (by with_reducible assumption)))) hb)); clear OWN; have OWN := OWN9; clear OWN9; have HS := Lib.hid (BLC.out s hq); clear hq; have ns : w.heap.size + 1 + 1 < w2.heap.size := hb.lt (by first | with_reducible assumption | omega | (simp; done) | (simp; omega)); have n0 : w2.cell? ⟨w.heap.size, 0, none⟩ = some (.int .i64 e) := (hb.cells _ _ (by first | with_reducible assumption | omega | (simp; done) | (simp; omega))).trans (by first | with_reducible assumption | (simp; done) | (simp; with_reducible assumption) | (rw [cell_alloc_before _ _ _ _ (by omega)]; with_reducible assumption) | (simp [go_sem, *]; done)); have n1 : w2.cell? ⟨w.heap.size, 1, none⟩ = some (.int .i64 f) := (hb.cells _ _ (by first | with_reducible assumption | omega | (simp; done) | (simp; omega))).trans (by first | with_reducible assumption | (simp; done) | (simp; with_reducible assumption) | (rw [cell_alloc_before _ _ _ _ (by omega)]; with_reducible assumption) | (simp [go_sem, *]; done)); have n2 : w2.cell? ⟨w.heap.size + 1, 0, none⟩ = some (.int .i64 0) := (hb.cells _ _ (by first | with_reducible assumption | omega | (simp; done) | (simp; omega))).trans (by first | with_reducible assumption | (simp; done) | (simp; with_reducible assumption) | (rw [cell_alloc_before _ _ _ _ (by omega)]; with_reducible assumption) | (simp [go_sem, *]; done)); have n3 : w2.cell? ⟨w.heap.size + 1, 1, none⟩ = some (.slice none 0 0) := (hb.cells _ _ (by first | with_reducible assumption | omega | (simp; done) | (simp; omega))).trans (by first | with_reducible assumption | (simp; done) | (simp; with_reducible assumption) | (rw [cell_alloc_before _ _ _ _ (by omega)]; with_reducible assumption) | (simp [go_sem, *]; done)); have n4 : w2.cell? ⟨w.heap.size + 1 + 1, 0, none⟩ = some (.int .i64 P) := (hb.cells _ _ (by first | with_reducible assumption | omega | (simp; done) | (simp; omega))).trans (by first | with_reducible assumption | (simp; done) | (simp; with_reducible assumption) | (rw [cell_alloc_before _ _ _ _ (by omega)]; with_reducible assumption) | (simp [go_sem, *]; done)); have n5 : w2.cell? ⟨w.heap.size + 1 + 1, 1, none⟩ = some (.slice q k c) := (hb.cells _ _ (by first | with_reducible assumption | omega | (simp; done) | (simp; omega))).trans (by first | with_reducible assumption | (simp; done) | (simp; with_reducible assumption) | (rw [cell_alloc_before _ _ _ _ (by omega)]; with_reducible assumption) | (simp [go_sem, *]; done)); have nz0 : w2.frozen? ⟨w.heap.size + 1, 0, none⟩ = false := (hb.frz _ _ (by first | with_reducible assumption | omega | (simp; done) | (simp; omega))).trans (by first | with_reducible assumption | (simp [go_sem]; done) | (simp [go_sem]; with_reducible assumption)); have nz1 : w2.frozen? ⟨w.heap.size + 1, 1, none⟩ = false := (hb.frz _ _ (by first | with_reducible assumption | omega | (simp; done) | (simp; omega))).trans (by first | with_reducible assumption | (simp [go_sem]; done) | (simp [go_sem]; with_reducible assumption)); have nz2 : w2.frozen? ⟨w.heap.size + 1 + 1, 0, none⟩ = false := (hb.frz _ _ (by first | with_reducible assumption | omega | (simp; done) | (simp; omega))).trans (by first | with_reducible assumption | (simp [go_sem]; done) | (simp [go_sem]; with_reducible assumption)); have nz3 : w2.frozen? ⟨w.heap.size + 1 + 1, 1, none⟩ = false := (hb.frz _ _ (by first | with_reducible assumption | omega | (simp; done) | (simp; omega))).trans (by first | with_reducible assumption | (simp [go_sem]; done) | (simp [go_sem]; with_reducible assumption)); (first | (have nx := Ext.trans hx hb; clear hx) | (have nx := Ext.trans (hx.alloc _) hb; clear hx) | (have nx := Ext.trans hx.drew hb; clear hx) | have nx := hb); clear hb; try clear hs; try clear g0; try clear g1; try clear g2; try clear g3; try clear g4; try clear g5; try clear z0; try clear z1; try clear z2; try clear z3; have hx := nx; clear nx; have hs := ns; clear ns; have g0 := n0; clear n0; have g1 := n1; clear n1; have g2 := n2; clear n2; have g3 := n3; clear n3; have g4 := n4; clear n4; have g5 := n5; clear n5; have z0 := nz0; clear nz0; have z1 := nz1; clear nz1; have z2 := nz2; clear nz2; have z3 := nz3; clear nz3) | (go_simp; go_at_call 141; refine (HS.out.1 _).mono ?_; rintro rv w3 ⟨rfl, hb⟩; have OWN9 := Lib.hid (own_ext OWN.out (Ext.trans (by repeat (first | exact Ext.refl _ | with_reducible assumption | apply Ext.alloc | apply Ext.drew | apply Ext.drewN | (refine Ext.setRow ?_ (by first | (simp; done) | (simp; omega) | omega) _) | (refine Ext.setCell ?_ (by first | (simp; done) | (simp; omega) | omega) _) | (refine Ext.trans ?_ (by with_reducible assumption)))) hb)); clear OWN; have OWN := OWN9; clear OWN9; have ns : w.heap.size + 1 + 1 < w3.heap.size := hb.lt (by first | with_reducible assumption | omega | (simp; done) | (simp; omega)); have n0 : w3.cell? ⟨w.heap.size, 0, none⟩ = some (.int .i64 e) := (hb.cells _ _ (by first | with_reducible assumption | omega | (simp; done) | (simp; omega))).trans (by first | with_reducible assumption | (simp; done) | (simp; with_reducible assumption) | (rw [cell_alloc_before _ _ _ _ (by omega)]; with_reducible assumption) | (simp [go_sem, *]; done)); have n1 : w3.cell? ⟨w.heap.size, 1, none⟩ = some (.int .i64 f) := (hb.cells _ _ (by first | with_reducible assumption | omega | (simp; done) | (simp; omega))).trans (by first | with_reducible assumption | (simp; done) | (simp; with_reducible assumption) | (rw [cell_alloc_before _ _ _ _ (by omega)]; with_reducible assumption) | (simp [go_sem, *]; done)); have n2 : w3.cell? ⟨w.heap.size + 1, 0, none⟩ = some (.int .i64 0) := (hb.cells _ _ (by first | with_reducible assumption | omega | (simp; done) | (simp; omega))).trans (by first | with_reducible assumption | (simp; done) | (simp; with_reducible assumption) | (rw [cell_alloc_before _ _ _ _ (by omega)]; with_reducible assumption) | (simp [go_sem, *]; done)); have n3 : w3.cell? ⟨w.heap.size + 1, 1, none⟩ = some (.slice none 0 0) := (hb.cells _ _ (by first | with_reducible assumption | omega | (simp; done) | (simp; omega))).trans (by first | with_reducible assumption | (simp; done) | (simp; with_reducible assumption) | (rw [cell_alloc_before _ _ _ _ (by omega)]; with_reducible assumption) | (simp [go_sem, *]; done)); have n4 : w3.cell? ⟨w.heap.size + 1 + 1, 0, none⟩ = some (.int .i64 P) := (hb.cells _ _ (by first | with_reducible assumption | omega | (simp; done) | (simp; omega))).trans (by first | with_reducible assumption | (simp; done) | (simp; with_reducible assumption) | (rw [cell_alloc_before _ _ _ _ (by omega)]; with_reducible assumption) | (simp [go_sem, *]; done)); have n5 : w3.cell? ⟨w.heap.size + 1 + 1, 1, none⟩ = some (.slice q k c) := (hb.cells _ _ (by first | with_reducible assumption | omega | (simp; done) | (simp; omega))).trans (by first | with_reducible assumption | (simp; done) | (simp; with_reducible assumption) | (rw [cell_alloc_before _ _ _ _ (by omega)]; with_reducible assumption) | (simp [go_sem, *]; done)); have nz0 : w3.frozen? ⟨w.heap.size + 1, 0, none⟩ = false := (hb.frz _ _ (by first | with_reducible assumption | omega | (simp; done) | (simp; omega))).trans (by first | with_reducible assumption | (simp [go_sem]; done) | (simp [go_sem]; with_reducible assumption)); have nz1 : w3.frozen? ⟨w.heap.size + 1, 1, none⟩ = false := (hb.frz _ _ (by first | with_reducible assumption | omega | (simp; done) | (simp; omega))).trans (by first | with_reducible assumption | (simp [go_sem]; done) | (simp [go_sem]; with_reducible assumption)); have nz2 : w3.frozen? ⟨w.heap.size + 1 + 1, 0, none⟩ = false := (hb.frz _ _ (by first | with_reducible assumption | omega | (simp; done) | (simp; omega))).trans (by first | with_reducible assumption | (simp [go_sem]; done) | (simp [go_sem]; with_reducible assumption)); have nz3 : w3.frozen? ⟨w.heap.size + 1 + 1, 1, none⟩ = false := (hb.frz _ _ (by first | with_reducible assumption | omega | (simp; done) | (simp; omega))).trans (by first | with_reducible assumption | (simp [go_sem]; done) | (simp [go_sem]; with_reducible assumption)); (first | (have nx := Ext.trans hx hb; clear hx) | (have nx := Ext.trans (hx.alloc _) hb; clear hx) | (have nx := Ext.trans hx.drew hb; clear hx) | have nx := hb); clear hb; try clear hs; try clear g0; try clear g1; try clear g2; try clear g3; try clear g4; try clear g5; try clear z0; try clear z1; try clear z2; try clear z3; have hx := nx; clear nx; have hs := ns; clear ns; have g0 := n0; clear n0; have g1 := n1; clear n1; have g2 := n2; clear n2; have g3 := n3; clear n3; have g4 := n4; clear n4; have g5 := n5; clear n5; have z0 := nz0; clear nz0; have z1 := nz1; clear nz1; have z2 := nz2; clear nz2; have z3 := nz3; clear nz3) | ((refine step_append_lies _ rfl (.tmp 21) (.tmp 31) 24 rfl (w.heap.size + 1 + 1 + 1) 3 i (.int .i64 0) 1 8 Try.underlying24 HI.out HZ.out HSZ.out HBY.out rfl (by decide) (.slice q k c) k (patL Q k) rfl (own_ext OWN.out (by repeat (first | exact Ext.refl _ | apply Ext.alloc | apply Ext.drew))) _ 1 1 [.int .i64 qk] rfl rfl (fun j u hj => by cases j with | zero => (simp at hj; subst hj; simp [go_sem, Addr.add]) | succ j => simp at hj) (by simp [Value.oneCell']) (by decide) (by simp [maxLen]; omega) (by omega) (by simp; omega) _ rfl ?_); intro g cap w9 OWN8 hgr hat hlt9; have hne : ∀ j, j < (w.heap.size + 1 + 1 + 1) → some j ≠ (Value.slice q k c).ownBlock := fun j hk h => (by have := (World.ownsRow.lt OWN.out _ h.symm).1; omega); have c0 : w9.cell? ⟨w.heap.size, 0, none⟩ = some (.int .i64 e) := hgr.cell ((cell_alloc_before _ _ (w.heap.size) 0 (by omega)).trans (by with_reducible assumption)) (hne (w.heap.size) (by omega)); have c1 : w9.cell? ⟨w.heap.size, 1, none⟩ = some (.int .i64 f) := hgr.cell ((cell_alloc_before _ _ (w.heap.size) 1 (by omega)).trans (by with_reducible assumption)) (hne (w.heap.size) (by omega)); have c2 : w9.cell? ⟨w.heap.size + 1, 0, none⟩ = some (.int .i64 0) := hgr.cell ((cell_alloc_before _ _ (w.heap.size + 1) 0 (by omega)).trans (by with_reducible assumption)) (hne (w.heap.size + 1) (by omega)); have c3 : w9.cell? ⟨w.heap.size + 1, 1, none⟩ = some (.slice none 0 0) := hgr.cell ((cell_alloc_before _ _ (w.heap.size + 1) 1 (by omega)).trans (by with_reducible assumption)) (hne (w.heap.size + 1) (by omega)); have c4 : w9.cell? ⟨w.heap.size + 1 + 1, 0, none⟩ = some (.int .i64 P) := hgr.cell ((cell_alloc_before _ _ (w.heap.size + 1 + 1) 0 (by omega)).trans (by with_reducible assumption)) (hne (w.heap.size + 1 + 1) (by omega)); have c5 : w9.cell? ⟨w.heap.size + 1 + 1, 1, none⟩ = some (.slice q k c) := hgr.cell ((cell_alloc_before _ _ (w.heap.size + 1 + 1) 1 (by omega)).trans (by with_reducible assumption)) (hne (w.heap.size + 1 + 1) (by omega)); have d0 : w9.frozen? ⟨w.heap.size + 1, 0, none⟩ = false := (hgr.frozen_far _ (by simp; omega) (hne (w.heap.size + 1) (by omega))).trans (by first | with_reducible assumption | (rw [frozen_alloc_before _ _ _ _ (by omega)]; with_reducible assumption) | (simp [go_sem, *]; done)); have d1 : w9.frozen? ⟨w.heap.size + 1, 1, none⟩ = false := (hgr.frozen_far _ (by simp; omega) (hne (w.heap.size + 1) (by omega))).trans (by first | with_reducible assumption | (rw [frozen_alloc_before _ _ _ _ (by omega)]; with_reducible assumption) | (simp [go_sem, *]; done)); have d2 : w9.frozen? ⟨w.heap.size + 1 + 1, 0, none⟩ = false := (hgr.frozen_far _ (by simp; omega) (hne (w.heap.size + 1 + 1) (by omega))).trans (by first | with_reducible assumption | (rw [frozen_alloc_before _ _ _ _ (by omega)]; with_reducible assumption) | (simp [go_sem, *]; done)); have d3 : w9.frozen? ⟨w.heap.size + 1 + 1, 1, none⟩ = false := (hgr.frozen_far _ (by simp; omega) (hne (w.heap.size + 1 + 1) (by omega))).trans (by first | with_reducible assumption | (rw [frozen_alloc_before _ _ _ _ (by omega)]; with_reducible assumption) | (simp [go_sem, *]; done)); have hs9 : w.heap.size + 1 + 1 < w9.heap.size := (by have h := hgr.size; rw [World.size_alloc] at h; omega); have hx9 : Ext w w9 := ext_grown (by repeat (first | exact Ext.refl _ | with_reducible assumption | apply Ext.alloc | apply Ext.drew | apply Ext.drewN | (refine Ext.setRow ?_ (by first | (simp; done) | (simp; omega) | omega) _) | (refine Ext.setCell ?_ (by first | (simp; done) | (simp; omega) | omega) _) | (refine Ext.trans ?_ (by with_reducible assumption)))) hgr (fun k hk => by have := (World.ownsRow.lt OWN.out k hk).1; omega); have OWN7 : RowKit.Hid (w9.ownsRow (w.heap.size + 1 + 1 + 1) 3 1 (.slice (some ⟨g, 0, none⟩) (k + 1) cap) (k + 1) (patL Q k ++ [.int .i64 qk])) := OWN8; clear OWN OWN8 hne hgr hat; have OWN := OWN7; clear OWN7)))
      all_goals (try go_wp2_with fail)
      all_goals go_roundw

      all_goals first | (simp [intOf]; omega) | exact ⟨k + 1, some ⟨g, 0, none⟩, cap, by simp, by omega, (by rw [patL_succ, HK.out]; exact ownsRow_setCell_below OWN.out (by simp) _), (by first | with_reducible assumption | (simp [go_sem, *]; done) | ((repeat first | rw [cell_set_far _ _ _ _ _ _ (by omega)] | rw [World.cell?_setCell_far _ _ _ _ (by simp)]); first | with_reducible assumption | (simp [go_sem, *]; done)) | (simp [go_sem, World.setCell, *]; done)), (by first | with_reducible assumption | (simp [go_sem, *]; done) | ((repeat first | rw [cell_set_far _ _ _ _ _ _ (by omega)] | rw [World.cell?_setCell_far _ _ _ _ (by simp)]); first | with_reducible assumption | (simp [go_sem, *]; done)) | (simp [go_sem, World.setCell, *]; done)), (by first | with_reducible assumption | (simp [go_sem, *]; done) | ((repeat first | rw [cell_set_far _ _ _ _ _ _ (by omega)] | rw [World.cell?_setCell_far _ _ _ _ (by simp)]); first | with_reducible assumption | (simp [go_sem, *]; done)) | (simp [go_sem, World.setCell, *]; done)), (by first | with_reducible assumption | (simp [go_sem, *]; done) | ((repeat first | rw [cell_set_far _ _ _ _ _ _ (by omega)] | rw [World.cell?_setCell_far _ _ _ _ (by simp)]); first | with_reducible assumption | (simp [go_sem, *]; done)) | (simp [go_sem, World.setCell, *]; done)), (by first | with_reducible assumption | (simp [go_sem, *]; done) | ((repeat first | rw [cell_set_far _ _ _ _ _ _ (by omega)] | rw [World.cell?_setCell_far _ _ _ _ (by simp)]); first | with_reducible assumption | (simp [go_sem, *]; done)) | (simp [go_sem, World.setCell, *]; done)), (by first | with_reducible assumption | (simp [go_sem, *]; done) | ((repeat first | rw [cell_set_far _ _ _ _ _ _ (by omega)] | rw [World.cell?_setCell_far _ _ _ _ (by simp)]); first | with_reducible assumption | (simp [go_sem, *]; done)) | (simp [go_sem, World.setCell, *]; done)), (by first | with_reducible assumption | (simp [go_sem, *]; done) | ((repeat first | rw [cell_set_far _ _ _ _ _ _ (by omega)] | rw [World.cell?_setCell_far _ _ _ _ (by simp)]); first | with_reducible assumption | (simp [go_sem, *]; done)) | (simp [go_sem, World.setCell, *]; done)), (by first | with_reducible assumption | (simp [go_sem, *]; done) | ((repeat first | rw [cell_set_far _ _ _ _ _ _ (by omega)] | rw [World.cell?_setCell_far _ _ _ _ (by simp)]); first | with_reducible assumption | (simp [go_sem, *]; done)) | (simp [go_sem, World.setCell, *]; done)), (by first | with_reducible assumption | (simp [go_sem, *]; done) | ((repeat first | rw [cell_set_far _ _ _ _ _ _ (by omega)] | rw [World.cell?_setCell_far _ _ _ _ (by simp)]); first | with_reducible assumption | (simp [go_sem, *]; done)) | (simp [go_sem, World.setCell, *]; done)), (by first | with_reducible assumption | (simp [go_sem, *]; done) | ((repeat first | rw [cell_set_far _ _ _ _ _ _ (by omega)] | rw [World.cell?_setCell_far _ _ _ _ (by simp)]); first | with_reducible assumption | (simp [go_sem, *]; done)) | (simp [go_sem, World.setCell, *]; done)), (by first | with_reducible assumption | (simp [World.setCell]; done) | (simp [World.setCell]; omega)), (by repeat (first | exact Ext.refl _ | with_reducible assumption | apply Ext.alloc | apply Ext.drew | apply Ext.drewN | (refine Ext.setRow ?_ (by first | (simp; done) | (simp; omega) | omega) _) | (refine Ext.setCell ?_ (by first | (simp; done) | (simp; omega) | omega) _) | (refine Ext.trans ?_ (by with_reducible assumption))))⟩
    · have h1 : ¬ ((k : Nat) : Int) < (n : Int) := by omega
      have hkn : k = n := by omega
      subst hkn
      go_wp2_with fail
      exact bodyPost_ret (v := .agg #[.int .i64 P, .slice q k c]) (by simp [results, Try.results83, go_sem, *]) rfl ⟨_, rfl, ownsRow_setCell_below (ownsRow_setCell_below OWN.out (by simp) _) (by simp) _, (by repeat (first | exact Ext.refl _ | with_reducible assumption | apply Ext.alloc | apply Ext.drew | apply Ext.drewN | (refine Ext.setRow ?_ (by first | (simp; done) | (simp; omega) | omega) _) | (refine Ext.setCell ?_ (by first | (simp; done) | (simp; omega) | omega) _) | (refine Ext.trans ?_ (by with_reducible assumption))))⟩
end Go.Proofs.Ytdagfocpbnamfaa

namespace Go.Proofs.Ytdagfocpbnamfaa
open Go Go.RowKit
set_option linter.unusedSimpArgs false
set_option linter.unusedVariables false
set_option maxRecDepth 100000

/-- What BlockWith and BlockOf ask for. -/
def boB (e f mode : Int) (V : Nat → Int) (n : Nat) : Bool := goodB e f && (rawB V n && moB mode)

def bwB (e f P mode : Int) (V : Nat → Int) (n : Nat) : Bool := boB e f mode V n && decide (-40 ≤ P ∧ P ≤ 40)

/-- The patterns of a list that is put into a block. -/
noncomputable def pQ (e f P mode : Int) (V : Nat → Int) (k : Nat) : Int := rfV e f (V k) (-P - unV e f) mode

theorem own_far {w1 : World} {q : Option Addr} {n R B : Nat} {Q : Nat → Int} {x y : Value} (h : OwnL w1 q n Q) (hp : Past q n B) (hR : R < B) : OwnL ((w1.setCell ⟨R, 0, none⟩ x).setCell ⟨R, 1, none⟩ y) q n Q :=
  h.block (fun hn b hb => by
    have := hp hn b hb
    rw [Below.heap_setCell _ _ _ _ (show b ≠ R by omega), Below.heap_setCell _ _ _ _ (show b ≠ R by omega)])

theorem bo_iff {e f mode : Int} {V : Nat → Int} {n : Nat} : boB e f mode V n = true ↔ goodB e f = true ∧ rawB V n = true ∧ 0 ≤ mode ∧ mode ≤ 5 := by
  unfold boB; rw [Bool.and_eq_true, Bool.and_eq_true, mo_iff]

theorem iput_form (e f P mode : Int) (V : Nat → Int) (bb n : Nat) (hB : bwB e f P mode V n = true) (w : World) (h : w.rowIs bb 3 n (fun i => .int .i64 (V i))) :
    Calls Try.prog 86 #[fmt e f, .slice (some ⟨bb, 0, none⟩) n n, .int .i64 P, .int .i64 mode] w fun rv w' => ∃ q c, rv = .returned (blk P q n c) ∧ (OwnL w' q n (pQ e f P mode V) ∧ Past q n (w.heap.size + 1 + 1 + 1)) ∧ Ext w w' := by
  unfold bwB at hB
  rw [Bool.and_eq_true] at hB
  obtain ⟨h1, h2, h3, h4⟩ := bo_iff.1 hB.1
  have h5 := of_decide_eq_true hB.2
  refine (iput_own e f P mode V (pQ e f P mode V) bb n h1 h2 h5.1 h5.2 h3 h4 (fun k => rfl) w h).mono ?_
  rintro rv w' ⟨v, rfl, ho, hx⟩
  obtain ⟨q, c, rfl, a, b⟩ := own_form ho
  exact ⟨q, c, rfl, ⟨a, b⟩, hx⟩

theorem sput_form (e f P mode : Int) (V : Nat → Int) (bb n : Nat) (hB : bwB e f P mode V n = true) (w : World) (h : w.rowIs bb 3 n (fun i => .int .i64 (V i))) :
    Calls Try.prog 83 #[fmt e f, .slice (some ⟨bb, 0, none⟩) n n, .int .i64 P, .int .i64 mode] w fun rv w' => ∃ q c, rv = .returned (blk P q n c) ∧ (OwnL w' q n (pQ e f P mode V) ∧ Past q n (w.heap.size + 1 + 1 + 1)) ∧ Ext w w' := by
  unfold bwB at hB
  rw [Bool.and_eq_true] at hB
  obtain ⟨h1, h2, h3, h4⟩ := bo_iff.1 hB.1
  have h5 := of_decide_eq_true hB.2
  refine (sput_own e f P mode V (pQ e f P mode V) bb n h1 h2 h5.1 h5.2 h3 h4 (fun k => rfl) w h).mono ?_
  rintro rv w' ⟨v, rfl, ho, hx⟩
  obtain ⟨q, c, rfl, a, b⟩ := own_form ho
  exact ⟨q, c, rfl, ⟨a, b⟩, hx⟩

theorem blAsked_row (e f mode : Int) (V : Nat → Int) (bb n : Nat) (hn : n ≤ 1048576) (w : World) (h : w.rowIs bb 3 n (fun i => .int .i64 (V i))) : Calls Try.prog 82 #[fmt e f, .slice (some ⟨bb, 0, none⟩) n n, .int .i64 mode] w fun rv w' => rv = .returned (.bool (boB e f mode V n)) ∧ Ext w w' := by
  have GD := Lib.hid (fun w => fmGood_any e f w)
  have BR := Lib.hid (fun w h => blRaw_row V bb n hn w h)
  have MO := Lib.hid (fun w => rdMode_any mode w)
  unfold boB
  generalize goodB e f = G at *
  generalize rawB V n = R at *
  generalize moB mode = M at *
  cases G <;> cases R
  all_goals
    go_enter Try.func82, Try.ntmps82
    go_wp2_with (first | (go_at_call 69; refine (GD.out _).mono ?_; rintro rv w1 ⟨rfl, hb⟩; have ns : w.heap.size < w1.heap.size := hb.lt (by first | with_reducible assumption | omega | (simp; done) | (simp; omega)); have n0 : w1.cell? ⟨w.heap.size, 0, none⟩ = some (.int .i64 e) := (hb.cells _ _ (by first | with_reducible assumption | omega | (simp; done) | (simp; omega))).trans (by first | with_reducible assumption | (simp; done) | (simp; with_reducible assumption) | (rw [cell_alloc_before _ _ _ _ (by omega)]; with_reducible assumption) | (simp [go_sem, *]; done)); have n1 : w1.cell? ⟨w.heap.size, 1, none⟩ = some (.int .i64 f) := (hb.cells _ _ (by first | with_reducible assumption | omega | (simp; done) | (simp; omega))).trans (by first | with_reducible assumption | (simp; done) | (simp; with_reducible assumption) | (rw [cell_alloc_before _ _ _ _ (by omega)]; with_reducible assumption) | (simp [go_sem, *]; done)); (first | (have nx := Ext.trans hx hb; clear hx) | (have nx := Ext.trans (hx.alloc _) hb; clear hx) | (have nx := Ext.trans hx.drew hb; clear hx) | have nx := hb); clear hb; try clear hs; try clear g0; try clear g1; have hx := nx; clear nx; have hs := ns; clear ns; have g0 := n0; clear n0; have g1 := n1; clear n1) | (go_at_call 77; refine (BR.out _ (row_ext h (by repeat (first | exact Ext.refl _ | with_reducible assumption | apply Ext.alloc | apply Ext.drew | apply Ext.drewN | (refine Ext.setRow ?_ (by first | (simp; done) | (simp; omega) | omega) _) | (refine Ext.setCell ?_ (by first | (simp; done) | (simp; omega) | omega) _) | (refine Ext.trans ?_ (by with_reducible assumption)))))).mono ?_; rintro rv w1 ⟨rfl, rfl⟩) | (go_at_call 90; refine (MO.out _).mono ?_; rintro rv w1 ⟨rfl, rfl⟩))
    go_ret
    exact ⟨by first | rfl | simp, (by repeat (first | exact Ext.refl _ | with_reducible assumption | apply Ext.alloc | apply Ext.drew | apply Ext.drewN | (refine Ext.setRow ?_ (by first | (simp; done) | (simp; omega) | omega) _) | (refine Ext.setCell ?_ (by first | (simp; done) | (simp; omega) | omega) _) | (refine Ext.trans ?_ (by with_reducible assumption))))⟩

set_option maxHeartbeats 3200000 in
theorem iBlockWith_all (e f P mode : Int) (V : Nat → Int) (bb n : Nat) (w : World) (h : w.rowIs bb 3 n (fun i => .int .i64 (V i))) :
    Calls Try.prog 37 #[fmt e f, .slice (some ⟨bb, 0, none⟩) n n, .int .i64 P, .int .i64 mode] w fun rv w' => ∃ q c, rv = .returned (.tuple #[blk (if bwB e f P mode V n = true then P else 0) q (if bwB e f P mode V n = true then n else 0) c, .bool (bwB e f P mode V n)]) ∧ OwnL w' q (if bwB e f P mode V n = true then n else 0) (pQ e f P mode V) ∧ Past q (if bwB e f P mode V n = true then n else 0) w.heap.size ∧ Ext w w' := by
  have GD := Lib.hid (fun w => isFormat_any e f w)
  have BR := Lib.hid (fun w h => isRaw_row V bb n w h)
  have BP := Lib.hid (fun w => isBlockPower_any P w)
  have MO := Lib.hid (fun w => isMode_any mode w)
  by_cases hB : bwB e f P mode V n = true
  · have PC := Lib.hid (fun w h => iput_form e f P mode V bb n hB w h)
    have hB0 := hB
    unfold bwB at hB0
    rw [Bool.and_eq_true] at hB0
    obtain ⟨h1, h2, h3, h4⟩ := bo_iff.1 hB0.1
    rw [h1] at GD
    rw [h2] at BR
    rw [hB0.2] at BP
    rw [mo_iff.2 ⟨h3, h4⟩] at MO
    rw [hB, if_pos rfl, if_pos rfl]
    clear hB0 h1 h2 h3 h4 hB
    generalize pQ e f P mode V = Q at *
    go_enter Try.func37, Try.ntmps37
    go_wp2_with (first | (go_at_call 76; refine (GD.out _).mono ?_; rintro rv w1 ⟨rfl, hb⟩; have ns : w.heap.size + 1 < w1.heap.size := hb.lt (by first | with_reducible assumption | omega | (simp; done) | (simp; omega)); have n0 : w1.cell? ⟨w.heap.size, 0, none⟩ = some (.int .i64 e) := (hb.cells _ _ (by first | with_reducible assumption | omega | (simp; done) | (simp; omega))).trans (by first | with_reducible assumption | (simp; done) | (simp; with_reducible assumption) | (rw [cell_alloc_before _ _ _ _ (by omega)]; with_reducible assumption) | (simp [go_sem, *]; done)); have n1 : w1.cell? ⟨w.heap.size, 1, none⟩ = some (.int .i64 f) := (hb.cells _ _ (by first | with_reducible assumption | omega | (simp; done) | (simp; omega))).trans (by first | with_reducible assumption | (simp; done) | (simp; with_reducible assumption) | (rw [cell_alloc_before _ _ _ _ (by omega)]; with_reducible assumption) | (simp [go_sem, *]; done)); have n2 : w1.cell? ⟨w.heap.size + 1, 0, none⟩ = some (.int .i64 0) := (hb.cells _ _ (by first | with_reducible assumption | omega | (simp; done) | (simp; omega))).trans (by first | with_reducible assumption | (simp; done) | (simp; with_reducible assumption) | (rw [cell_alloc_before _ _ _ _ (by omega)]; with_reducible assumption) | (simp [go_sem, *]; done)); have n3 : w1.cell? ⟨w.heap.size + 1, 1, none⟩ = some (.slice none 0 0) := (hb.cells _ _ (by first | with_reducible assumption | omega | (simp; done) | (simp; omega))).trans (by first | with_reducible assumption | (simp; done) | (simp; with_reducible assumption) | (rw [cell_alloc_before _ _ _ _ (by omega)]; with_reducible assumption) | (simp [go_sem, *]; done)); have nz0 : w1.frozen? ⟨w.heap.size + 1, 0, none⟩ = false := (hb.frz _ _ (by first | with_reducible assumption | omega | (simp; done) | (simp; omega))).trans (by first | with_reducible assumption | (simp [go_sem]; done) | (simp [go_sem]; with_reducible assumption)); have nz1 : w1.frozen? ⟨w.heap.size + 1, 1, none⟩ = false := (hb.frz _ _ (by first | with_reducible assumption | omega | (simp; done) | (simp; omega))).trans (by first | with_reducible assumption | (simp [go_sem]; done) | (simp [go_sem]; with_reducible assumption)); (first | (have nx := Ext.trans hx hb; clear hx) | (have nx := Ext.trans (hx.alloc _) hb; clear hx) | (have nx := Ext.trans hx.drew hb; clear hx) | have nx := hb); clear hb; try clear hs; try clear g0; try clear g1; try clear g2; try clear g3; try clear z0; try clear z1; have hx := nx; clear nx; have hs := ns; clear ns; have g0 := n0; clear n0; have g1 := n1; clear n1; have g2 := n2; clear n2; have g3 := n3; clear n3; have z0 := nz0; clear nz0; have z1 := nz1; clear nz1) | (go_at_call 79; refine (BR.out _ (row_ext h (by repeat (first | exact Ext.refl _ | with_reducible assumption | apply Ext.alloc | apply Ext.drew | apply Ext.drewN | (refine Ext.setRow ?_ (by first | (simp; done) | (simp; omega) | omega) _) | (refine Ext.setCell ?_ (by first | (simp; done) | (simp; omega) | omega) _) | (refine Ext.trans ?_ (by with_reducible assumption)))))).mono ?_; rintro rv w1 ⟨rfl, rfl⟩) | (go_at_call 84; refine (BP.out _).mono ?_; rintro rv w1 ⟨rfl, rfl⟩) | (go_at_call 85; refine (MO.out _).mono ?_; rintro rv w1 ⟨rfl, rfl⟩) | (go_at_call 86; refine (PC.out _ (row_ext h (by repeat (first | exact Ext.refl _ | with_reducible assumption | apply Ext.alloc | apply Ext.drew | apply Ext.drewN | (refine Ext.setRow ?_ (by first | (simp; done) | (simp; omega) | omega) _) | (refine Ext.setCell ?_ (by first | (simp; done) | (simp; omega) | omega) _) | (refine Ext.trans ?_ (by with_reducible assumption)))))).mono ?_; rintro rv w3 ⟨q, c, rfl, hq, hb⟩; have HQ := Lib.hid hq.1; have HQ2 := Lib.hid hq.2; clear hq; have ns : w.heap.size + 1 < w3.heap.size := hb.lt (by first | with_reducible assumption | omega | (simp; done) | (simp; omega)); have n0 : w3.cell? ⟨w.heap.size, 0, none⟩ = some (.int .i64 e) := (hb.cells _ _ (by first | with_reducible assumption | omega | (simp; done) | (simp; omega))).trans (by first | with_reducible assumption | (simp; done) | (simp; with_reducible assumption) | (rw [cell_alloc_before _ _ _ _ (by omega)]; with_reducible assumption) | (simp [go_sem, *]; done)); have n1 : w3.cell? ⟨w.heap.size, 1, none⟩ = some (.int .i64 f) := (hb.cells _ _ (by first | with_reducible assumption | omega | (simp; done) | (simp; omega))).trans (by first | with_reducible assumption | (simp; done) | (simp; with_reducible assumption) | (rw [cell_alloc_before _ _ _ _ (by omega)]; with_reducible assumption) | (simp [go_sem, *]; done)); have n2 : w3.cell? ⟨w.heap.size + 1, 0, none⟩ = some (.int .i64 0) := (hb.cells _ _ (by first | with_reducible assumption | omega | (simp; done) | (simp; omega))).trans (by first | with_reducible assumption | (simp; done) | (simp; with_reducible assumption) | (rw [cell_alloc_before _ _ _ _ (by omega)]; with_reducible assumption) | (simp [go_sem, *]; done)); have n3 : w3.cell? ⟨w.heap.size + 1, 1, none⟩ = some (.slice none 0 0) := (hb.cells _ _ (by first | with_reducible assumption | omega | (simp; done) | (simp; omega))).trans (by first | with_reducible assumption | (simp; done) | (simp; with_reducible assumption) | (rw [cell_alloc_before _ _ _ _ (by omega)]; with_reducible assumption) | (simp [go_sem, *]; done)); have nz0 : w3.frozen? ⟨w.heap.size + 1, 0, none⟩ = false := (hb.frz _ _ (by first | with_reducible assumption | omega | (simp; done) | (simp; omega))).trans (by first | with_reducible assumption | (simp [go_sem]; done) | (simp [go_sem]; with_reducible assumption)); have nz1 : w3.frozen? ⟨w.heap.size + 1, 1, none⟩ = false := (hb.frz _ _ (by first | with_reducible assumption | omega | (simp; done) | (simp; omega))).trans (by first | with_reducible assumption | (simp [go_sem]; done) | (simp [go_sem]; with_reducible assumption)); (first | (have nx := Ext.trans hx hb; clear hx) | (have nx := Ext.trans (hx.alloc _) hb; clear hx) | (have nx := Ext.trans hx.drew hb; clear hx) | have nx := hb); clear hb; try clear hs; try clear g0; try clear g1; try clear g2; try clear g3; try clear z0; try clear z1; have hx := nx; clear nx; have hs := ns; clear ns; have g0 := n0; clear n0; have g1 := n1; clear n1; have g2 := n2; clear n2; have g3 := n3; clear n3; have z0 := nz0; clear nz0; have z1 := nz1; clear nz1))
    exact bodyPost_ret (v := .tuple #[blk P q n c, .bool true]) (by simp [results, Try.results37, go_sem, *]) rfl ⟨q, c, rfl, own_far HQ.out (HQ2.out.le (B2 := w.heap.size + 2) (by first | omega | (simp; omega))) (by omega), HQ2.out.le (by first | omega | (simp; omega)), (by repeat (first | exact Ext.refl _ | with_reducible assumption | apply Ext.alloc | apply Ext.drew | apply Ext.drewN | (refine Ext.setRow ?_ (by first | (simp; done) | (simp; omega) | omega) _) | (refine Ext.setCell ?_ (by first | (simp; done) | (simp; omega) | omega) _) | (refine Ext.trans ?_ (by with_reducible assumption))))⟩
  · have hB1 : bwB e f P mode V n = false := by simpa using hB
    rw [hB1, if_neg (by decide), if_neg (by decide)]
    unfold bwB boB at hB1
    generalize goodB e f = G at *
    generalize rawB V n = R at *
    generalize decide (-40 ≤ P ∧ P ≤ 40) = D at *
    generalize moB mode = M at *
    clear hB
    cases G <;> cases R <;> cases D <;> cases M
    all_goals first | (exact absurd hB1 (by decide)) | skip
    all_goals
      clear hB1
      go_enter Try.func37, Try.ntmps37
      go_wp2_with (first | (go_at_call 76; refine (GD.out _).mono ?_; rintro rv w1 ⟨rfl, hb⟩; have ns : w.heap.size + 1 < w1.heap.size := hb.lt (by first | with_reducible assumption | omega | (simp; done) | (simp; omega)); have n0 : w1.cell? ⟨w.heap.size, 0, none⟩ = some (.int .i64 e) := (hb.cells _ _ (by first | with_reducible assumption | omega | (simp; done) | (simp; omega))).trans (by first | with_reducible assumption | (simp; done) | (simp; with_reducible assumption) | (rw [cell_alloc_before _ _ _ _ (by omega)]; with_reducible assumption) | (simp [go_sem, *]; done)); have n1 : w1.cell? ⟨w.heap.size, 1, none⟩ = some (.int .i64 f) := (hb.cells _ _ (by first | with_reducible assumption | omega | (simp; done) | (simp; omega))).trans (by first | with_reducible assumption | (simp; done) | (simp; with_reducible assumption) | (rw [cell_alloc_before _ _ _ _ (by omega)]; with_reducible assumption) | (simp [go_sem, *]; done)); have n2 : w1.cell? ⟨w.heap.size + 1, 0, none⟩ = some (.int .i64 0) := (hb.cells _ _ (by first | with_reducible assumption | omega | (simp; done) | (simp; omega))).trans (by first | with_reducible assumption | (simp; done) | (simp; with_reducible assumption) | (rw [cell_alloc_before _ _ _ _ (by omega)]; with_reducible assumption) | (simp [go_sem, *]; done)); have n3 : w1.cell? ⟨w.heap.size + 1, 1, none⟩ = some (.slice none 0 0) := (hb.cells _ _ (by first | with_reducible assumption | omega | (simp; done) | (simp; omega))).trans (by first | with_reducible assumption | (simp; done) | (simp; with_reducible assumption) | (rw [cell_alloc_before _ _ _ _ (by omega)]; with_reducible assumption) | (simp [go_sem, *]; done)); have nz0 : w1.frozen? ⟨w.heap.size + 1, 0, none⟩ = false := (hb.frz _ _ (by first | with_reducible assumption | omega | (simp; done) | (simp; omega))).trans (by first | with_reducible assumption | (simp [go_sem]; done) | (simp [go_sem]; with_reducible assumption)); have nz1 : w1.frozen? ⟨w.heap.size + 1, 1, none⟩ = false := (hb.frz _ _ (by first | with_reducible assumption | omega | (simp; done) | (simp; omega))).trans (by first | with_reducible assumption | (simp [go_sem]; done) | (simp [go_sem]; with_reducible assumption)); (first | (have nx := Ext.trans hx hb; clear hx) | (have nx := Ext.trans (hx.alloc _) hb; clear hx) | (have nx := Ext.trans hx.drew hb; clear hx) | have nx := hb); clear hb; try clear hs; try clear g0; try clear g1; try clear g2; try clear g3; try clear z0; try clear z1; have hx := nx; clear nx; have hs := ns; clear ns; have g0 := n0; clear n0; have g1 := n1; clear n1; have g2 := n2; clear n2; have g3 := n3; clear n3; have z0 := nz0; clear nz0; have z1 := nz1; clear nz1) | (go_at_call 79; refine (BR.out _ (row_ext h (by repeat (first | exact Ext.refl _ | with_reducible assumption | apply Ext.alloc | apply Ext.drew | apply Ext.drewN | (refine Ext.setRow ?_ (by first | (simp; done) | (simp; omega) | omega) _) | (refine Ext.setCell ?_ (by first | (simp; done) | (simp; omega) | omega) _) | (refine Ext.trans ?_ (by with_reducible assumption)))))).mono ?_; rintro rv w1 ⟨rfl, rfl⟩) | (go_at_call 84; refine (BP.out _).mono ?_; rintro rv w1 ⟨rfl, rfl⟩) | (go_at_call 85; refine (MO.out _).mono ?_; rintro rv w1 ⟨rfl, rfl⟩))
      exact bodyPost_ret (v := .tuple #[blk 0 none 0 0, .bool false]) (by simp [results, Try.results37, go_sem, *]) rfl ⟨none, 0, rfl, own_nil _ _, past_nil _, (by repeat (first | exact Ext.refl _ | with_reducible assumption | apply Ext.alloc | apply Ext.drew | apply Ext.drewN | (refine Ext.setRow ?_ (by first | (simp; done) | (simp; omega) | omega) _) | (refine Ext.setCell ?_ (by first | (simp; done) | (simp; omega) | omega) _) | (refine Ext.trans ?_ (by with_reducible assumption))))⟩

set_option maxHeartbeats 3200000 in
theorem sBlockWith_all (e f P mode : Int) (V : Nat → Int) (bb n : Nat) (hn : n ≤ 1048576) (w : World) (h : w.rowIs bb 3 n (fun i => .int .i64 (V i))) :
    Calls Try.prog 36 #[fmt e f, .slice (some ⟨bb, 0, none⟩) n n, .int .i64 P, .int .i64 mode] w fun rv w' => ∃ q c, rv = .returned (.tuple #[blk (if bwB e f P mode V n = true then P else 0) q (if bwB e f P mode V n = true then n else 0) c, .bool (bwB e f P mode V n)]) ∧ OwnL w' q (if bwB e f P mode V n = true then n else 0) (pQ e f P mode V) ∧ Past q (if bwB e f P mode V n = true then n else 0) w.heap.size ∧ Ext w w' := by
  have AS := Lib.hid (fun w h => blAsked_row e f mode V bb n hn w h)
  have BP := Lib.hid (fun w => l1In_any P (-40) 40 w)
  by_cases hB : bwB e f P mode V n = true
  · have PC := Lib.hid (fun w h => sput_form e f P mode V bb n hB w h)
    have hB0 := hB
    unfold bwB at hB0
    rw [Bool.and_eq_true] at hB0
    rw [hB0.1] at AS
    rw [hB0.2] at BP
    rw [hB, if_pos rfl, if_pos rfl]
    clear hB0 hB
    generalize pQ e f P mode V = Q at *
    go_enter Try.func36, Try.ntmps36
    go_wp2_with (first | (go_at_call 82; refine (AS.out _ (row_ext h (by repeat (first | exact Ext.refl _ | with_reducible assumption | apply Ext.alloc | apply Ext.drew | apply Ext.drewN | (refine Ext.setRow ?_ (by first | (simp; done) | (simp; omega) | omega) _) | (refine Ext.setCell ?_ (by first | (simp; done) | (simp; omega) | omega) _) | (refine Ext.trans ?_ (by with_reducible assumption)))))).mono ?_; rintro rv w1 ⟨rfl, hb⟩; have ns : w.heap.size + 1 < w1.heap.size := hb.lt (by first | with_reducible assumption | omega | (simp; done) | (simp; omega)); have n0 : w1.cell? ⟨w.heap.size, 0, none⟩ = some (.int .i64 e) := (hb.cells _ _ (by first | with_reducible assumption | omega | (simp; done) | (simp; omega))).trans (by first | with_reducible assumption | (simp; done) | (simp; with_reducible assumption) | (rw [cell_alloc_before _ _ _ _ (by omega)]; with_reducible assumption) | (simp [go_sem, *]; done)); have n1 : w1.cell? ⟨w.heap.size, 1, none⟩ = some (.int .i64 f) := (hb.cells _ _ (by first | with_reducible assumption | omega | (simp; done) | (simp; omega))).trans (by first | with_reducible assumption | (simp; done) | (simp; with_reducible assumption) | (rw [cell_alloc_before _ _ _ _ (by omega)]; with_reducible assumption) | (simp [go_sem, *]; done)); have n2 : w1.cell? ⟨w.heap.size + 1, 0, none⟩ = some (.int .i64 0) := (hb.cells _ _ (by first | with_reducible assumption | omega | (simp; done) | (simp; omega))).trans (by first | with_reducible assumption | (simp; done) | (simp; with_reducible assumption) | (rw [cell_alloc_before _ _ _ _ (by omega)]; with_reducible assumption) | (simp [go_sem, *]; done)); have n3 : w1.cell? ⟨w.heap.size + 1, 1, none⟩ = some (.slice none 0 0) := (hb.cells _ _ (by first | with_reducible assumption | omega | (simp; done) | (simp; omega))).trans (by first | with_reducible assumption | (simp; done) | (simp; with_reducible assumption) | (rw [cell_alloc_before _ _ _ _ (by omega)]; with_reducible assumption) | (simp [go_sem, *]; done)); have nz0 : w1.frozen? ⟨w.heap.size + 1, 0, none⟩ = false := (hb.frz _ _ (by first | with_reducible assumption | omega | (simp; done) | (simp; omega))).trans (by first | with_reducible assumption | (simp [go_sem]; done) | (simp [go_sem]; with_reducible assumption)); have nz1 : w1.frozen? ⟨w.heap.size + 1, 1, none⟩ = false := (hb.frz _ _ (by first | with_reducible assumption | omega | (simp; done) | (simp; omega))).trans (by first | with_reducible assumption | (simp [go_sem]; done) | (simp [go_sem]; with_reducible assumption)); (first | (have nx := Ext.trans hx hb; clear hx) | (have nx := Ext.trans (hx.alloc _) hb; clear hx) | (have nx := Ext.trans hx.drew hb; clear hx) | have nx := hb); clear hb; try clear hs; try clear g0; try clear g1; try clear g2; try clear g3; try clear z0; try clear z1; have hx := nx; clear nx; have hs := ns; clear ns; have g0 := n0; clear n0; have g1 := n1; clear n1; have g2 := n2; clear n2; have g3 := n3; clear n3; have z0 := nz0; clear nz0; have z1 := nz1; clear nz1) | (go_at_call 70; refine (BP.out _).mono ?_; rintro rv w1 ⟨rfl, rfl⟩) | (go_at_call 83; refine (PC.out _ (row_ext h (by repeat (first | exact Ext.refl _ | with_reducible assumption | apply Ext.alloc | apply Ext.drew | apply Ext.drewN | (refine Ext.setRow ?_ (by first | (simp; done) | (simp; omega) | omega) _) | (refine Ext.setCell ?_ (by first | (simp; done) | (simp; omega) | omega) _) | (refine Ext.trans ?_ (by with_reducible assumption)))))).mono ?_; rintro rv w3 ⟨q, c, rfl, hq, hb⟩; have HQ := Lib.hid hq.1; have HQ2 := Lib.hid hq.2; clear hq; have ns : w.heap.size + 1 < w3.heap.size := hb.lt (by first | with_reducible assumption | omega | (simp; done) | (simp; omega)); have n0 : w3.cell? ⟨w.heap.size, 0, none⟩ = some (.int .i64 e) := (hb.cells _ _ (by first | with_reducible assumption | omega | (simp; done) | (simp; omega))).trans (by first | with_reducible assumption | (simp; done) | (simp; with_reducible assumption) | (rw [cell_alloc_before _ _ _ _ (by omega)]; with_reducible assumption) | (simp [go_sem, *]; done)); have n1 : w3.cell? ⟨w.heap.size, 1, none⟩ = some (.int .i64 f) := (hb.cells _ _ (by first | with_reducible assumption | omega | (simp; done) | (simp; omega))).trans (by first | with_reducible assumption | (simp; done) | (simp; with_reducible assumption) | (rw [cell_alloc_before _ _ _ _ (by omega)]; with_reducible assumption) | (simp [go_sem, *]; done)); have n2 : w3.cell? ⟨w.heap.size + 1, 0, none⟩ = some (.int .i64 0) := (hb.cells _ _ (by first | with_reducible assumption | omega | (simp; done) | (simp; omega))).trans (by first | with_reducible assumption | (simp; done) | (simp; with_reducible assumption) | (rw [cell_alloc_before _ _ _ _ (by omega)]; with_reducible assumption) | (simp [go_sem, *]; done)); have n3 : w3.cell? ⟨w.heap.size + 1, 1, none⟩ = some (.slice none 0 0) := (hb.cells _ _ (by first | with_reducible assumption | omega | (simp; done) | (simp; omega))).trans (by first | with_reducible assumption | (simp; done) | (simp; with_reducible assumption) | (rw [cell_alloc_before _ _ _ _ (by omega)]; with_reducible assumption) | (simp [go_sem, *]; done)); have nz0 : w3.frozen? ⟨w.heap.size + 1, 0, none⟩ = false := (hb.frz _ _ (by first | with_reducible assumption | omega | (simp; done) | (simp; omega))).trans (by first | with_reducible assumption | (simp [go_sem]; done) | (simp [go_sem]; with_reducible assumption)); have nz1 : w3.frozen? ⟨w.heap.size + 1, 1, none⟩ = false := (hb.frz _ _ (by first | with_reducible assumption | omega | (simp; done) | (simp; omega))).trans (by first | with_reducible assumption | (simp [go_sem]; done) | (simp [go_sem]; with_reducible assumption)); (first | (have nx := Ext.trans hx hb; clear hx) | (have nx := Ext.trans (hx.alloc _) hb; clear hx) | (have nx := Ext.trans hx.drew hb; clear hx) | have nx := hb); clear hb; try clear hs; try clear g0; try clear g1; try clear g2; try clear g3; try clear z0; try clear z1; have hx := nx; clear nx; have hs := ns; clear ns; have g0 := n0; clear n0; have g1 := n1; clear n1; have g2 := n2; clear n2; have g3 := n3; clear n3; have z0 := nz0; clear nz0; have z1 := nz1; clear nz1))
    exact bodyPost_ret (v := .tuple #[blk P q n c, .bool true]) (by simp [results, Try.results36, go_sem, *]) rfl ⟨q, c, rfl, own_far HQ.out (HQ2.out.le (B2 := w.heap.size + 2) (by first | omega | (simp; omega))) (by omega), HQ2.out.le (by first | omega | (simp; omega)), (by repeat (first | exact Ext.refl _ | with_reducible assumption | apply Ext.alloc | apply Ext.drew | apply Ext.drewN | (refine Ext.setRow ?_ (by first | (simp; done) | (simp; omega) | omega) _) | (refine Ext.setCell ?_ (by first | (simp; done) | (simp; omega) | omega) _) | (refine Ext.trans ?_ (by with_reducible assumption))))⟩
  · have hB1 : bwB e f P mode V n = false := by simpa using hB
    rw [hB1, if_neg (by decide), if_neg (by decide)]
    unfold bwB at hB1
    generalize boB e f mode V n = G at *
    generalize decide (-40 ≤ P ∧ P ≤ 40) = D at *
    clear hB
    cases G <;> cases D
    all_goals first | (exact absurd hB1 (by decide)) | skip
    all_goals
      clear hB1
      go_enter Try.func36, Try.ntmps36
      go_wp2_with (first | (go_at_call 82; refine (AS.out _ (row_ext h (by repeat (first | exact Ext.refl _ | with_reducible assumption | apply Ext.alloc | apply Ext.drew | apply Ext.drewN | (refine Ext.setRow ?_ (by first | (simp; done) | (simp; omega) | omega) _) | (refine Ext.setCell ?_ (by first | (simp; done) | (simp; omega) | omega) _) | (refine Ext.trans ?_ (by with_reducible assumption)))))).mono ?_; rintro rv w1 ⟨rfl, hb⟩; have ns : w.heap.size + 1 < w1.heap.size := hb.lt (by first | with_reducible assumption | omega | (simp; done) | (simp; omega)); have n0 : w1.cell? ⟨w.heap.size, 0, none⟩ = some (.int .i64 e) := (hb.cells _ _ (by first | with_reducible assumption | omega | (simp; done) | (simp; omega))).trans (by first | with_reducible assumption | (simp; done) | (simp; with_reducible assumption) | (rw [cell_alloc_before _ _ _ _ (by omega)]; with_reducible assumption) | (simp [go_sem, *]; done)); have n1 : w1.cell? ⟨w.heap.size, 1, none⟩ = some (.int .i64 f) := (hb.cells _ _ (by first | with_reducible assumption | omega | (simp; done) | (simp; omega))).trans (by first | with_reducible assumption | (simp; done) | (simp; with_reducible assumption) | (rw [cell_alloc_before _ _ _ _ (by omega)]; with_reducible assumption) | (simp [go_sem, *]; done)); have n2 : w1.cell? ⟨w.heap.size + 1, 0, none⟩ = some (.int .i64 0) := (hb.cells _ _ (by first | with_reducible assumption | omega | (simp; done) | (simp; omega))).trans (by first | with_reducible assumption | (simp; done) | (simp; with_reducible assumption) | (rw [cell_alloc_before _ _ _ _ (by omega)]; with_reducible assumption) | (simp [go_sem, *]; done)); have n3 : w1.cell? ⟨w.heap.size + 1, 1, none⟩ = some (.slice none 0 0) := (hb.cells _ _ (by first | with_reducible assumption | omega | (simp; done) | (simp; omega))).trans (by first | with_reducible assumption | (simp; done) | (simp; with_reducible assumption) | (rw [cell_alloc_before _ _ _ _ (by omega)]; with_reducible assumption) | (simp [go_sem, *]; done)); have nz0 : w1.frozen? ⟨w.heap.size + 1, 0, none⟩ = false := (hb.frz _ _ (by first | with_reducible assumption | omega | (simp; done) | (simp; omega))).trans (by first | with_reducible assumption | (simp [go_sem]; done) | (simp [go_sem]; with_reducible assumption)); have nz1 : w1.frozen? ⟨w.heap.size + 1, 1, none⟩ = false := (hb.frz _ _ (by first | with_reducible assumption | omega | (simp; done) | (simp; omega))).trans (by first | with_reducible assumption | (simp [go_sem]; done) | (simp [go_sem]; with_reducible assumption)); (first | (have nx := Ext.trans hx hb; clear hx) | (have nx := Ext.trans (hx.alloc _) hb; clear hx) | (have nx := Ext.trans hx.drew hb; clear hx) | have nx := hb); clear hb; try clear hs; try clear g0; try clear g1; try clear g2; try clear g3; try clear z0; try clear z1; have hx := nx; clear nx; have hs := ns; clear ns; have g0 := n0; clear n0; have g1 := n1; clear n1; have g2 := n2; clear n2; have g3 := n3; clear n3; have z0 := nz0; clear nz0; have z1 := nz1; clear nz1) | (go_at_call 70; refine (BP.out _).mono ?_; rintro rv w1 ⟨rfl, rfl⟩))
      exact bodyPost_ret (v := .tuple #[blk 0 none 0 0, .bool false]) (by simp [results, Try.results36, go_sem, *]) rfl ⟨none, 0, rfl, own_nil _ _, past_nil _, (by repeat (first | exact Ext.refl _ | with_reducible assumption | apply Ext.alloc | apply Ext.drew | apply Ext.drewN | (refine Ext.setRow ?_ (by first | (simp; done) | (simp; omega) | omega) _) | (refine Ext.setCell ?_ (by first | (simp; done) | (simp; omega) | omega) _) | (refine Ext.trans ?_ (by with_reducible assumption))))⟩

/-- BlockOf is BlockWith with the shared power. -/
theorem bw_shared {e f mode : Int} {V : Nat → Int} {n : Nat} (h : spB e f V n = true) : bwB e f (shP e V n) mode V n = moB mode ∧ boB e f mode V n = moB mode := by
  unfold spB at h
  rw [Bool.and_eq_true] at h
  have b := shP_bd h.1 h.2
  unfold bwB boB
  rw [h.1, h.2, decide_eq_true (show -40 ≤ shP e V n ∧ shP e V n ≤ 40 by omega)]
  exact ⟨by simp, by simp⟩

set_option maxHeartbeats 3200000 in
theorem iBlockOf_all (e f mode : Int) (V : Nat → Int) (bb n : Nat) (w : World) (h : w.rowIs bb 3 n (fun i => .int .i64 (V i))) :
    Calls Try.prog 33 #[fmt e f, .slice (some ⟨bb, 0, none⟩) n n, .int .i64 mode] w fun rv w' => ∃ q c, rv = .returned (.tuple #[blk (if boB e f mode V n = true then shP e V n else 0) q (if boB e f mode V n = true then n else 0) c, .bool (boB e f mode V n)]) ∧ OwnL w' q (if boB e f mode V n = true then n else 0) (pQ e f (shP e V n) mode V) ∧ Past q (if boB e f mode V n = true then n else 0) w.heap.size ∧ Ext w w' := by
  have SP := Lib.hid (fun w h => iSharedPower_row e f V bb n w h)
  cases hs0 : spB e f V n
  · have hB1 : boB e f mode V n = false := by
      unfold spB at hs0
      unfold boB
      cases hg : goodB e f
      · rfl
      · rw [hg, Bool.true_and] at hs0
        rw [hs0]; rfl
    rw [hB1, if_neg (by decide), if_neg (by decide)]
    rw [hs0] at SP
    generalize spV e f V n = s at *
    clear hB1 hs0
    go_enter Try.func33, Try.ntmps33
    go_wp2_with (go_at_call 31; refine (SP.out _ (row_ext h (by repeat (first | exact Ext.refl _ | with_reducible assumption | apply Ext.alloc | apply Ext.drew | apply Ext.drewN | (refine Ext.setRow ?_ (by first | (simp; done) | (simp; omega) | omega) _) | (refine Ext.setCell ?_ (by first | (simp; done) | (simp; omega) | omega) _) | (refine Ext.trans ?_ (by with_reducible assumption)))))).mono ?_; rintro rv w1 ⟨rfl, hb⟩; have ns : w.heap.size + 1 < w1.heap.size := hb.lt (by first | with_reducible assumption | omega | (simp; done) | (simp; omega)); have n0 : w1.cell? ⟨w.heap.size, 0, none⟩ = some (.int .i64 e) := (hb.cells _ _ (by first | with_reducible assumption | omega | (simp; done) | (simp; omega))).trans (by first | with_reducible assumption | (simp; done) | (simp; with_reducible assumption) | (rw [cell_alloc_before _ _ _ _ (by omega)]; with_reducible assumption) | (simp [go_sem, *]; done)); have n1 : w1.cell? ⟨w.heap.size, 1, none⟩ = some (.int .i64 f) := (hb.cells _ _ (by first | with_reducible assumption | omega | (simp; done) | (simp; omega))).trans (by first | with_reducible assumption | (simp; done) | (simp; with_reducible assumption) | (rw [cell_alloc_before _ _ _ _ (by omega)]; with_reducible assumption) | (simp [go_sem, *]; done)); have n2 : w1.cell? ⟨w.heap.size + 1, 0, none⟩ = some (.int .i64 0) := (hb.cells _ _ (by first | with_reducible assumption | omega | (simp; done) | (simp; omega))).trans (by first | with_reducible assumption | (simp; done) | (simp; with_reducible assumption) | (rw [cell_alloc_before _ _ _ _ (by omega)]; with_reducible assumption) | (simp [go_sem, *]; done)); have n3 : w1.cell? ⟨w.heap.size + 1, 1, none⟩ = some (.slice none 0 0) := (hb.cells _ _ (by first | with_reducible assumption | omega | (simp; done) | (simp; omega))).trans (by first | with_reducible assumption | (simp; done) | (simp; with_reducible assumption) | (rw [cell_alloc_before _ _ _ _ (by omega)]; with_reducible assumption) | (simp [go_sem, *]; done)); have nz0 : w1.frozen? ⟨w.heap.size + 1, 0, none⟩ = false := (hb.frz _ _ (by first | with_reducible assumption | omega | (simp; done) | (simp; omega))).trans (by first | with_reducible assumption | (simp [go_sem]; done) | (simp [go_sem]; with_reducible assumption)); have nz1 : w1.frozen? ⟨w.heap.size + 1, 1, none⟩ = false := (hb.frz _ _ (by first | with_reducible assumption | omega | (simp; done) | (simp; omega))).trans (by first | with_reducible assumption | (simp [go_sem]; done) | (simp [go_sem]; with_reducible assumption)); (first | (have nx := Ext.trans hx hb; clear hx) | (have nx := Ext.trans (hx.alloc _) hb; clear hx) | (have nx := Ext.trans hx.drew hb; clear hx) | have nx := hb); clear hb; try clear hs; try clear g0; try clear g1; try clear g2; try clear g3; try clear z0; try clear z1; have hx := nx; clear nx; have hs := ns; clear ns; have g0 := n0; clear n0; have g1 := n1; clear n1; have g2 := n2; clear n2; have g3 := n3; clear n3; have z0 := nz0; clear nz0; have z1 := nz1; clear nz1)
    exact bodyPost_ret (v := .tuple #[blk 0 none 0 0, .bool false]) (by simp [results, Try.results33, go_sem, *]) rfl ⟨none, 0, rfl, own_nil _ _, past_nil _, (by repeat (first | exact Ext.refl _ | with_reducible assumption | apply Ext.alloc | apply Ext.drew | apply Ext.drewN | (refine Ext.setRow ?_ (by first | (simp; done) | (simp; omega) | omega) _) | (refine Ext.setCell ?_ (by first | (simp; done) | (simp; omega) | omega) _) | (refine Ext.trans ?_ (by with_reducible assumption))))⟩
  · obtain ⟨e1, e2⟩ := bw_shared (mode := mode) hs0
    have BW := Lib.hid (fun w h => iBlockWith_all e f (shP e V n) mode V bb n w h)
    rw [e1] at BW
    rw [e2]
    have e3 : spV e f V n = shP e V n := if_pos hs0
    rw [hs0, e3] at SP
    generalize (if moB mode = true then shP e V n else 0) = R at *
    generalize (if moB mode = true then n else 0) = m at *
    generalize pQ e f (shP e V n) mode V = Q at *
    generalize shP e V n = s at *
    generalize moB mode = M at *
    clear e1 e2 e3 hs0
    go_enter Try.func33, Try.ntmps33
    go_wp2_with (first | (go_at_call 31; refine (SP.out _ (row_ext h (by repeat (first | exact Ext.refl _ | with_reducible assumption | apply Ext.alloc | apply Ext.drew | apply Ext.drewN | (refine Ext.setRow ?_ (by first | (simp; done) | (simp; omega) | omega) _) | (refine Ext.setCell ?_ (by first | (simp; done) | (simp; omega) | omega) _) | (refine Ext.trans ?_ (by with_reducible assumption)))))).mono ?_; rintro rv w1 ⟨rfl, hb⟩; have ns : w.heap.size + 1 < w1.heap.size := hb.lt (by first | with_reducible assumption | omega | (simp; done) | (simp; omega)); have n0 : w1.cell? ⟨w.heap.size, 0, none⟩ = some (.int .i64 e) := (hb.cells _ _ (by first | with_reducible assumption | omega | (simp; done) | (simp; omega))).trans (by first | with_reducible assumption | (simp; done) | (simp; with_reducible assumption) | (rw [cell_alloc_before _ _ _ _ (by omega)]; with_reducible assumption) | (simp [go_sem, *]; done)); have n1 : w1.cell? ⟨w.heap.size, 1, none⟩ = some (.int .i64 f) := (hb.cells _ _ (by first | with_reducible assumption | omega | (simp; done) | (simp; omega))).trans (by first | with_reducible assumption | (simp; done) | (simp; with_reducible assumption) | (rw [cell_alloc_before _ _ _ _ (by omega)]; with_reducible assumption) | (simp [go_sem, *]; done)); have n2 : w1.cell? ⟨w.heap.size + 1, 0, none⟩ = some (.int .i64 0) := (hb.cells _ _ (by first | with_reducible assumption | omega | (simp; done) | (simp; omega))).trans (by first | with_reducible assumption | (simp; done) | (simp; with_reducible assumption) | (rw [cell_alloc_before _ _ _ _ (by omega)]; with_reducible assumption) | (simp [go_sem, *]; done)); have n3 : w1.cell? ⟨w.heap.size + 1, 1, none⟩ = some (.slice none 0 0) := (hb.cells _ _ (by first | with_reducible assumption | omega | (simp; done) | (simp; omega))).trans (by first | with_reducible assumption | (simp; done) | (simp; with_reducible assumption) | (rw [cell_alloc_before _ _ _ _ (by omega)]; with_reducible assumption) | (simp [go_sem, *]; done)); have nz0 : w1.frozen? ⟨w.heap.size + 1, 0, none⟩ = false := (hb.frz _ _ (by first | with_reducible assumption | omega | (simp; done) | (simp; omega))).trans (by first | with_reducible assumption | (simp [go_sem]; done) | (simp [go_sem]; with_reducible assumption)); have nz1 : w1.frozen? ⟨w.heap.size + 1, 1, none⟩ = false := (hb.frz _ _ (by first | with_reducible assumption | omega | (simp; done) | (simp; omega))).trans (by first | with_reducible assumption | (simp [go_sem]; done) | (simp [go_sem]; with_reducible assumption)); (first | (have nx := Ext.trans hx hb; clear hx) | (have nx := Ext.trans (hx.alloc _) hb; clear hx) | (have nx := Ext.trans hx.drew hb; clear hx) | have nx := hb); clear hb; try clear hs; try clear g0; try clear g1; try clear g2; try clear g3; try clear z0; try clear z1; have hx := nx; clear nx; have hs := ns; clear ns; have g0 := n0; clear n0; have g1 := n1; clear n1; have g2 := n2; clear n2; have g3 := n3; clear n3; have z0 := nz0; clear nz0; have z1 := nz1; clear nz1) | (go_at_call 37; refine (BW.out _ (row_ext h (by repeat (first | exact Ext.refl _ | with_reducible assumption | apply Ext.alloc | apply Ext.drew | apply Ext.drewN | (refine Ext.setRow ?_ (by first | (simp; done) | (simp; omega) | omega) _) | (refine Ext.setCell ?_ (by first | (simp; done) | (simp; omega) | omega) _) | (refine Ext.trans ?_ (by with_reducible assumption)))))).mono ?_; rintro rv w3 ⟨q, c, rfl, hq, hq2, hb⟩; have HQ := Lib.hid hq; have HQ2 := Lib.hid hq2; clear hq hq2; have ns : w.heap.size + 1 < w3.heap.size := hb.lt (by first | with_reducible assumption | omega | (simp; done) | (simp; omega)); have n0 : w3.cell? ⟨w.heap.size, 0, none⟩ = some (.int .i64 e) := (hb.cells _ _ (by first | with_reducible assumption | omega | (simp; done) | (simp; omega))).trans (by first | with_reducible assumption | (simp; done) | (simp; with_reducible assumption) | (rw [cell_alloc_before _ _ _ _ (by omega)]; with_reducible assumption) | (simp [go_sem, *]; done)); have n1 : w3.cell? ⟨w.heap.size, 1, none⟩ = some (.int .i64 f) := (hb.cells _ _ (by first | with_reducible assumption | omega | (simp; done) | (simp; omega))).trans (by first | with_reducible assumption | (simp; done) | (simp; with_reducible assumption) | (rw [cell_alloc_before _ _ _ _ (by omega)]; with_reducible assumption) | (simp [go_sem, *]; done)); have n2 : w3.cell? ⟨w.heap.size + 1, 0, none⟩ = some (.int .i64 0) := (hb.cells _ _ (by first | with_reducible assumption | omega | (simp; done) | (simp; omega))).trans (by first | with_reducible assumption | (simp; done) | (simp; with_reducible assumption) | (rw [cell_alloc_before _ _ _ _ (by omega)]; with_reducible assumption) | (simp [go_sem, *]; done)); have n3 : w3.cell? ⟨w.heap.size + 1, 1, none⟩ = some (.slice none 0 0) := (hb.cells _ _ (by first | with_reducible assumption | omega | (simp; done) | (simp; omega))).trans (by first | with_reducible assumption | (simp; done) | (simp; with_reducible assumption) | (rw [cell_alloc_before _ _ _ _ (by omega)]; with_reducible assumption) | (simp [go_sem, *]; done)); have nz0 : w3.frozen? ⟨w.heap.size + 1, 0, none⟩ = false := (hb.frz _ _ (by first | with_reducible assumption | omega | (simp; done) | (simp; omega))).trans (by first | with_reducible assumption | (simp [go_sem]; done) | (simp [go_sem]; with_reducible assumption)); have nz1 : w3.frozen? ⟨w.heap.size + 1, 1, none⟩ = false := (hb.frz _ _ (by first | with_reducible assumption | omega | (simp; done) | (simp; omega))).trans (by first | with_reducible assumption | (simp [go_sem]; done) | (simp [go_sem]; with_reducible assumption)); (first | (have nx := Ext.trans hx hb; clear hx) | (have nx := Ext.trans (hx.alloc _) hb; clear hx) | (have nx := Ext.trans hx.drew hb; clear hx) | have nx := hb); clear hb; try clear hs; try clear g0; try clear g1; try clear g2; try clear g3; try clear z0; try clear z1; have hx := nx; clear nx; have hs := ns; clear ns; have g0 := n0; clear n0; have g1 := n1; clear n1; have g2 := n2; clear n2; have g3 := n3; clear n3; have z0 := nz0; clear nz0; have z1 := nz1; clear nz1))
    exact bodyPost_ret (v := .tuple #[blk R q m c, .bool M]) (by simp [results, Try.results33, go_sem, *]) rfl ⟨q, c, rfl, own_far HQ.out (HQ2.out.le (B2 := w.heap.size + 2) (by first | omega | (simp; omega))) (by omega), HQ2.out.le (by first | omega | (simp; omega)), (by repeat (first | exact Ext.refl _ | with_reducible assumption | apply Ext.alloc | apply Ext.drew | apply Ext.drewN | (refine Ext.setRow ?_ (by first | (simp; done) | (simp; omega) | omega) _) | (refine Ext.setCell ?_ (by first | (simp; done) | (simp; omega) | omega) _) | (refine Ext.trans ?_ (by with_reducible assumption))))⟩

set_option maxHeartbeats 3200000 in
theorem sBlockOf_all (e f mode : Int) (V : Nat → Int) (bb n : Nat) (hn : n ≤ 1048576) (w : World) (h : w.rowIs bb 3 n (fun i => .int .i64 (V i))) :
    Calls Try.prog 32 #[fmt e f, .slice (some ⟨bb, 0, none⟩) n n, .int .i64 mode] w fun rv w' => ∃ q c, rv = .returned (.tuple #[blk (if boB e f mode V n = true then shP e V n else 0) q (if boB e f mode V n = true then n else 0) c, .bool (boB e f mode V n)]) ∧ OwnL w' q (if boB e f mode V n = true then n else 0) (pQ e f (shP e V n) mode V) ∧ Past q (if boB e f mode V n = true then n else 0) w.heap.size ∧ Ext w w' := by
  have AS := Lib.hid (fun w h => blAsked_row e f mode V bb n hn w h)
  cases hB : boB e f mode V n
  · rw [if_neg (by decide), if_neg (by decide)]
    rw [hB] at AS
    clear hB
    go_enter Try.func32, Try.ntmps32
    go_wp2_with (go_at_call 82; refine (AS.out _ (row_ext h (by repeat (first | exact Ext.refl _ | with_reducible assumption | apply Ext.alloc | apply Ext.drew | apply Ext.drewN | (refine Ext.setRow ?_ (by first | (simp; done) | (simp; omega) | omega) _) | (refine Ext.setCell ?_ (by first | (simp; done) | (simp; omega) | omega) _) | (refine Ext.trans ?_ (by with_reducible assumption)))))).mono ?_; rintro rv w1 ⟨rfl, hb⟩; have ns : w.heap.size + 1 < w1.heap.size := hb.lt (by first | with_reducible assumption | omega | (simp; done) | (simp; omega)); have n0 : w1.cell? ⟨w.heap.size, 0, none⟩ = some (.int .i64 e) := (hb.cells _ _ (by first | with_reducible assumption | omega | (simp; done) | (simp; omega))).trans (by first | with_reducible assumption | (simp; done) | (simp; with_reducible assumption) | (rw [cell_alloc_before _ _ _ _ (by omega)]; with_reducible assumption) | (simp [go_sem, *]; done)); have n1 : w1.cell? ⟨w.heap.size, 1, none⟩ = some (.int .i64 f) := (hb.cells _ _ (by first | with_reducible assumption | omega | (simp; done) | (simp; omega))).trans (by first | with_reducible assumption | (simp; done) | (simp; with_reducible assumption) | (rw [cell_alloc_before _ _ _ _ (by omega)]; with_reducible assumption) | (simp [go_sem, *]; done)); have n2 : w1.cell? ⟨w.heap.size + 1, 0, none⟩ = some (.int .i64 0) := (hb.cells _ _ (by first | with_reducible assumption | omega | (simp; done) | (simp; omega))).trans (by first | with_reducible assumption | (simp; done) | (simp; with_reducible assumption) | (rw [cell_alloc_before _ _ _ _ (by omega)]; with_reducible assumption) | (simp [go_sem, *]; done)); have n3 : w1.cell? ⟨w.heap.size + 1, 1, none⟩ = some (.slice none 0 0) := (hb.cells _ _ (by first | with_reducible assumption | omega | (simp; done) | (simp; omega))).trans (by first | with_reducible assumption | (simp; done) | (simp; with_reducible assumption) | (rw [cell_alloc_before _ _ _ _ (by omega)]; with_reducible assumption) | (simp [go_sem, *]; done)); have nz0 : w1.frozen? ⟨w.heap.size + 1, 0, none⟩ = false := (hb.frz _ _ (by first | with_reducible assumption | omega | (simp; done) | (simp; omega))).trans (by first | with_reducible assumption | (simp [go_sem]; done) | (simp [go_sem]; with_reducible assumption)); have nz1 : w1.frozen? ⟨w.heap.size + 1, 1, none⟩ = false := (hb.frz _ _ (by first | with_reducible assumption | omega | (simp; done) | (simp; omega))).trans (by first | with_reducible assumption | (simp [go_sem]; done) | (simp [go_sem]; with_reducible assumption)); (first | (have nx := Ext.trans hx hb; clear hx) | (have nx := Ext.trans (hx.alloc _) hb; clear hx) | (have nx := Ext.trans hx.drew hb; clear hx) | have nx := hb); clear hb; try clear hs; try clear g0; try clear g1; try clear g2; try clear g3; try clear z0; try clear z1; have hx := nx; clear nx; have hs := ns; clear ns; have g0 := n0; clear n0; have g1 := n1; clear n1; have g2 := n2; clear n2; have g3 := n3; clear n3; have z0 := nz0; clear nz0; have z1 := nz1; clear nz1)
    exact bodyPost_ret (v := .tuple #[blk 0 none 0 0, .bool false]) (by simp [results, Try.results32, go_sem, *]) rfl ⟨none, 0, rfl, own_nil _ _, past_nil _, (by repeat (first | exact Ext.refl _ | with_reducible assumption | apply Ext.alloc | apply Ext.drew | apply Ext.drewN | (refine Ext.setRow ?_ (by first | (simp; done) | (simp; omega) | omega) _) | (refine Ext.setCell ?_ (by first | (simp; done) | (simp; omega) | omega) _) | (refine Ext.trans ?_ (by with_reducible assumption))))⟩
  · rw [if_pos rfl, if_pos rfl]
    obtain ⟨h1, h2, h3, h4⟩ := bo_iff.1 hB
    have hs0 : spB e f V n = true := by unfold spB; rw [h1, h2]; rfl
    obtain ⟨e1, e2⟩ := bw_shared (mode := mode) hs0
    have PC := Lib.hid (fun w h => sput_form e f (shP e V n) mode V bb n (by rw [e1]; exact mo_iff.2 ⟨h3, h4⟩) w h)
    have BS := Lib.hid (fun w h => blShared_row e f V bb n h1 h2 w h)
    rw [hB] at AS
    clear e1 e2 hs0 h1 h2 h3 h4 hB
    generalize pQ e f (shP e V n) mode V = Q at *
    generalize shP e V n = s at *
    go_enter Try.func32, Try.ntmps32
    go_wp2_with (go_at_call 82; refine (AS.out _ (row_ext h (by repeat (first | exact Ext.refl _ | with_reducible assumption | apply Ext.alloc | apply Ext.drew | apply Ext.drewN | (refine Ext.setRow ?_ (by first | (simp; done) | (simp; omega) | omega) _) | (refine Ext.setCell ?_ (by first | (simp; done) | (simp; omega) | omega) _) | (refine Ext.trans ?_ (by with_reducible assumption)))))).mono ?_; rintro rv w1 ⟨rfl, hb⟩; have ns : w.heap.size + 1 < w1.heap.size := hb.lt (by first | with_reducible assumption | omega | (simp; done) | (simp; omega)); have n0 : w1.cell? ⟨w.heap.size, 0, none⟩ = some (.int .i64 e) := (hb.cells _ _ (by first | with_reducible assumption | omega | (simp; done) | (simp; omega))).trans (by first | with_reducible assumption | (simp; done) | (simp; with_reducible assumption) | (rw [cell_alloc_before _ _ _ _ (by omega)]; with_reducible assumption) | (simp [go_sem, *]; done)); have n1 : w1.cell? ⟨w.heap.size, 1, none⟩ = some (.int .i64 f) := (hb.cells _ _ (by first | with_reducible assumption | omega | (simp; done) | (simp; omega))).trans (by first | with_reducible assumption | (simp; done) | (simp; with_reducible assumption) | (rw [cell_alloc_before _ _ _ _ (by omega)]; with_reducible assumption) | (simp [go_sem, *]; done)); have n2 : w1.cell? ⟨w.heap.size + 1, 0, none⟩ = some (.int .i64 0) := (hb.cells _ _ (by first | with_reducible assumption | omega | (simp; done) | (simp; omega))).trans (by first | with_reducible assumption | (simp; done) | (simp; with_reducible assumption) | (rw [cell_alloc_before _ _ _ _ (by omega)]; with_reducible assumption) | (simp [go_sem, *]; done)); have n3 : w1.cell? ⟨w.heap.size + 1, 1, none⟩ = some (.slice none 0 0) := (hb.cells _ _ (by first | with_reducible assumption | omega | (simp; done) | (simp; omega))).trans (by first | with_reducible assumption | (simp; done) | (simp; with_reducible assumption) | (rw [cell_alloc_before _ _ _ _ (by omega)]; with_reducible assumption) | (simp [go_sem, *]; done)); have nz0 : w1.frozen? ⟨w.heap.size + 1, 0, none⟩ = false := (hb.frz _ _ (by first | with_reducible assumption | omega | (simp; done) | (simp; omega))).trans (by first | with_reducible assumption | (simp [go_sem]; done) | (simp [go_sem]; with_reducible assumption)); have nz1 : w1.frozen? ⟨w.heap.size + 1, 1, none⟩ = false := (hb.frz _ _ (by first | with_reducible assumption | omega | (simp; done) | (simp; omega))).trans (by first | with_reducible assumption | (simp [go_sem]; done) | (simp [go_sem]; with_reducible assumption)); (first | (have nx := Ext.trans hx hb; clear hx) | (have nx := Ext.trans (hx.alloc _) hb; clear hx) | (have nx := Ext.trans hx.drew hb; clear hx) | have nx := hb); clear hb; try clear hs; try clear g0; try clear g1; try clear g2; try clear g3; try clear z0; try clear z1; have hx := nx; clear nx; have hs := ns; clear ns; have g0 := n0; clear n0; have g1 := n1; clear n1; have g2 := n2; clear n2; have g3 := n3; clear n3; have z0 := nz0; clear nz0; have z1 := nz1; clear nz1)
    go_region_held3 (fun w' => w'.cell? ⟨w.heap.size, 0, none⟩ = some (.int .i64 e) ∧ w'.cell? ⟨w.heap.size, 1, none⟩ = some (.int .i64 f) ∧ w.heap.size + 1 < w'.heap.size) ((refine ⟨?_, ?_, ?_⟩ <;> first | with_reducible assumption | ((repeat first | rw [cell_set_far _ _ _ _ _ _ (by omega)] | rw [cell_alloc_before _ _ _ _ (by omega)] | rw [cell_alloc_drew _ _ _ _ (by omega)] | rw [cell_drew]); with_reducible assumption) | ((rw [cell_setRow_far _ _ _ _ _ (by omega)]); with_reducible assumption) | ((rw [setRow_size]); with_reducible assumption) | (simp; done) | (simp [World.setCell]; first | done | omega) | (simp [go_sem, World.cell?_alloc_past, World.cell?_setCell_far, *]; done))) ((first | (go_at_call 78; refine (BS.out _ (row_ext h (by repeat (first | exact Ext.refl _ | with_reducible assumption | apply Ext.alloc | apply Ext.drew | apply Ext.drewN | (refine Ext.setRow ?_ (by first | (simp; done) | (simp; omega) | omega) _) | (refine Ext.setCell ?_ (by first | (simp; done) | (simp; omega) | omega) _) | (refine Ext.trans ?_ (by with_reducible assumption)))))).mono ?_; rintro rv w1 ⟨rfl, hb⟩; have ns : w.heap.size + 1 < w1.heap.size := hb.lt (by first | with_reducible assumption | omega | (simp; done) | (simp; omega)); have n0 : w1.cell? ⟨w.heap.size, 0, none⟩ = some (.int .i64 e) := (hb.cells _ _ (by first | with_reducible assumption | omega | (simp; done) | (simp; omega))).trans (by first | with_reducible assumption | (simp; done) | (simp; with_reducible assumption) | (rw [cell_alloc_before _ _ _ _ (by omega)]; with_reducible assumption) | (simp [go_sem, *]; done)); have n1 : w1.cell? ⟨w.heap.size, 1, none⟩ = some (.int .i64 f) := (hb.cells _ _ (by first | with_reducible assumption | omega | (simp; done) | (simp; omega))).trans (by first | with_reducible assumption | (simp; done) | (simp; with_reducible assumption) | (rw [cell_alloc_before _ _ _ _ (by omega)]; with_reducible assumption) | (simp [go_sem, *]; done)); have n2 : w1.cell? ⟨w.heap.size + 1, 0, none⟩ = some (.int .i64 0) := (hb.cells _ _ (by first | with_reducible assumption | omega | (simp; done) | (simp; omega))).trans (by first | with_reducible assumption | (simp; done) | (simp; with_reducible assumption) | (rw [cell_alloc_before _ _ _ _ (by omega)]; with_reducible assumption) | (simp [go_sem, *]; done)); have n3 : w1.cell? ⟨w.heap.size + 1, 1, none⟩ = some (.slice none 0 0) := (hb.cells _ _ (by first | with_reducible assumption | omega | (simp; done) | (simp; omega))).trans (by first | with_reducible assumption | (simp; done) | (simp; with_reducible assumption) | (rw [cell_alloc_before _ _ _ _ (by omega)]; with_reducible assumption) | (simp [go_sem, *]; done)); have nz0 : w1.frozen? ⟨w.heap.size + 1, 0, none⟩ = false := (hb.frz _ _ (by first | with_reducible assumption | omega | (simp; done) | (simp; omega))).trans (by first | with_reducible assumption | (simp [go_sem]; done) | (simp [go_sem]; with_reducible assumption)); have nz1 : w1.frozen? ⟨w.heap.size + 1, 1, none⟩ = false := (hb.frz _ _ (by first | with_reducible assumption | omega | (simp; done) | (simp; omega))).trans (by first | with_reducible assumption | (simp [go_sem]; done) | (simp [go_sem]; with_reducible assumption)); (first | (have nx := Ext.trans hx hb; clear hx) | (have nx := Ext.trans (hx.alloc _) hb; clear hx) | (have nx := Ext.trans hx.drew hb; clear hx) | have nx := hb); clear hb; try clear hs; try clear g0; try clear g1; try clear g2; try clear g3; try clear z0; try clear z1; have hx := nx; clear nx; have hs := ns; clear ns; have g0 := n0; clear n0; have g1 := n1; clear n1; have g2 := n2; clear n2; have g3 := n3; clear n3; have z0 := nz0; clear nz0; have z1 := nz1; clear nz1) | (go_at_call 83; refine (PC.out _ (row_ext h (by repeat (first | exact Ext.refl _ | with_reducible assumption | apply Ext.alloc | apply Ext.drew | apply Ext.drewN | (refine Ext.setRow ?_ (by first | (simp; done) | (simp; omega) | omega) _) | (refine Ext.setCell ?_ (by first | (simp; done) | (simp; omega) | omega) _) | (refine Ext.trans ?_ (by with_reducible assumption)))))).mono ?_; rintro rv w3 ⟨q, c, rfl, hq, hb⟩; have HQ := Lib.hid hq.1; have HQ2 := Lib.hid hq.2; clear hq; have ns : w.heap.size + 1 < w3.heap.size := hb.lt (by first | with_reducible assumption | omega | (simp; done) | (simp; omega)); have n0 : w3.cell? ⟨w.heap.size, 0, none⟩ = some (.int .i64 e) := (hb.cells _ _ (by first | with_reducible assumption | omega | (simp; done) | (simp; omega))).trans (by first | with_reducible assumption | (simp; done) | (simp; with_reducible assumption) | (rw [cell_alloc_before _ _ _ _ (by omega)]; with_reducible assumption) | (simp [go_sem, *]; done)); have n1 : w3.cell? ⟨w.heap.size, 1, none⟩ = some (.int .i64 f) := (hb.cells _ _ (by first | with_reducible assumption | omega | (simp; done) | (simp; omega))).trans (by first | with_reducible assumption | (simp; done) | (simp; with_reducible assumption) | (rw [cell_alloc_before _ _ _ _ (by omega)]; with_reducible assumption) | (simp [go_sem, *]; done)); have n2 : w3.cell? ⟨w.heap.size + 1, 0, none⟩ = some (.int .i64 0) := (hb.cells _ _ (by first | with_reducible assumption | omega | (simp; done) | (simp; omega))).trans (by first | with_reducible assumption | (simp; done) | (simp; with_reducible assumption) | (rw [cell_alloc_before _ _ _ _ (by omega)]; with_reducible assumption) | (simp [go_sem, *]; done)); have n3 : w3.cell? ⟨w.heap.size + 1, 1, none⟩ = some (.slice none 0 0) := (hb.cells _ _ (by first | with_reducible assumption | omega | (simp; done) | (simp; omega))).trans (by first | with_reducible assumption | (simp; done) | (simp; with_reducible assumption) | (rw [cell_alloc_before _ _ _ _ (by omega)]; with_reducible assumption) | (simp [go_sem, *]; done)); have nz0 : w3.frozen? ⟨w.heap.size + 1, 0, none⟩ = false := (hb.frz _ _ (by first | with_reducible assumption | omega | (simp; done) | (simp; omega))).trans (by first | with_reducible assumption | (simp [go_sem]; done) | (simp [go_sem]; with_reducible assumption)); have nz1 : w3.frozen? ⟨w.heap.size + 1, 1, none⟩ = false := (hb.frz _ _ (by first | with_reducible assumption | omega | (simp; done) | (simp; omega))).trans (by first | with_reducible assumption | (simp [go_sem]; done) | (simp [go_sem]; with_reducible assumption)); (first | (have nx := Ext.trans hx hb; clear hx) | (have nx := Ext.trans (hx.alloc _) hb; clear hx) | (have nx := Ext.trans hx.drew hb; clear hx) | have nx := hb); clear hb; try clear hs; try clear g0; try clear g1; try clear g2; try clear g3; try clear z0; try clear z1; have hx := nx; clear nx; have hs := ns; clear ns; have g0 := n0; clear n0; have g1 := n1; clear n1; have g2 := n2; clear n2; have g3 := n3; clear n3; have z0 := nz0; clear nz0; have z1 := nz1; clear nz1)))
    all_goals (try go_wp2_with fail)
    all_goals exact bodyPost_ret (v := .tuple #[blk s q n c, .bool true]) (by simp [results, Try.results32, go_sem, *]) rfl ⟨q, c, rfl, own_far HQ.out (HQ2.out.le (B2 := w.heap.size + 2) (by first | omega | (simp; omega))) (by omega), HQ2.out.le (by first | omega | (simp; omega)), (by repeat (first | exact Ext.refl _ | with_reducible assumption | apply Ext.alloc | apply Ext.drew | apply Ext.drewN | (refine Ext.setRow ?_ (by first | (simp; done) | (simp; omega) | omega) _) | (refine Ext.setCell ?_ (by first | (simp; done) | (simp; omega) | omega) _) | (refine Ext.trans ?_ (by with_reducible assumption))))⟩
end Go.Proofs.Ytdagfocpbnamfaa

namespace Go.Proofs.Ytdagfocpbnamfaa
open Go Go.RowKit
set_option linter.unusedSimpArgs false
set_option linter.unusedVariables false
set_option maxRecDepth 100000

theorem Marked.toB {w w' : World} {p : Option Addr} {n : Nat} (h : Marked w w' p n) : MarkedB w w' p n := ⟨h.row, h.os, h.tape, h.output, Nat.le_of_eq h.size.symm, fun k _ hf => h.far k hf⟩

theorem MarkedB.same {w w' : World} {p : Option Addr} {n : Nat} (h : MarkedB w w' p n) : MarkedB w w' p n := h

set_option maxHeartbeats 12800000 in
theorem wBlockWith (e f : Int) (p : Option Addr) (n cap : Nat) (V : Nat → Int) (b m0 : Int) (w : World) (hold : HoldsL w p n V) : Calls Try.prog 9 #[fmt e f, .slice p n cap, .int .i64 b, .int .i64 m0] w fun rv w' => rv = .returned (.bool true) ∧ Ext w w' := by
  by_cases hn : n ≤ 1048576
  · have h12 : ¬ (1048576 : Int) < (n : Int) := by omega
    have SA := Lib.hid (fun bb w h => sBlockWith_all e f b m0 V bb n hn w h)
    have IA := Lib.hid (fun bb w h => iBlockWith_all e f b m0 V bb n w h)
    have hm : (if bwB e f b m0 V n = true then n else 0) ≤ 1048576 := by split <;> omega
    generalize pQ e f b m0 V = Q at *
    generalize (if bwB e f b m0 V n = true then b else 0) = R at *
    generalize (if bwB e f b m0 V n = true then n else 0) = m at *
    generalize bwB e f b m0 V n = B at *
    have EQM := Lib.hid (fun p q c1 c2 w hp hq => eqBlock_own R p q m c1 c2 Q hm w hp hq)
    have EQN := Lib.hid (fun p q c1 c2 w hp hq => eqIntS_own p q n c1 c2 V hn w hp hq)
    have MKM := Lib.hid (fun p c w hp => markBlock_own R p m c Q hm w hp)
    have MKN := Lib.hid (fun p c w hp => markIntS_own p n c V hn w hp)
    have HLM := Lib.hid (fun p c w hp => heldBlock_own R p m c hm w hp)
    obtain ⟨M, hM, hM0⟩ : ∃ M : Int, M = 1 + (m : Int) ∧ ¬ M < 0 := ⟨_, rfl, by omega⟩
    obtain ⟨N, hN, hN0⟩ : ∃ N : Int, N = 1 + (n : Int) ∧ ¬ N < 0 := ⟨_, rfl, by omega⟩
    rw [← hM] at MKM HLM
    rw [← hN] at MKN
    clear hM hN hm
    cases B
    all_goals
      go_enter Try.func9, Try.ntmps9
      go_wp2_with fail
      go_at_call 15
      refine (toFormat_any e f _).mono ?_
      rintro rv w1 ⟨rfl, hb⟩
      have hb0 : Ext w w1 := Ext.trans (by repeat (first | exact Ext.refl _ | with_reducible assumption | apply Ext.alloc | apply Ext.drew | apply Ext.drewN | (refine Ext.setRow ?_ (by first | (simp; done) | (simp; omega) | omega) _) | (refine Ext.setCell ?_ (by first | (simp; done) | (simp; omega) | omega) _) | (refine Ext.trans ?_ (by with_reducible assumption)))) hb
      have z1 : w.heap.size ≤ w1.heap.size := hb0.size
      have x1 : Ext w w1 := hb0
      have u0_1 : w.heap.size < w1.heap.size := hb.lt (by first | (simp; done) | (simp; omega))
      have c0_0_1 : w1.cell? ⟨w.heap.size, 0, none⟩ = some (.int .i64 e) := (hb.cells _ _ (by first | (simp; done) | (simp; omega))).trans (by first | (simp; done) | (simp [go_sem]; done) | (simp [go_sem, *]; done))
      have c0_1_1 : w1.cell? ⟨w.heap.size, 1, none⟩ = some (.int .i64 f) := (hb.cells _ _ (by first | (simp; done) | (simp; omega))).trans (by first | (simp; done) | (simp [go_sem]; done) | (simp [go_sem, *]; done))
      clear hb hb0
      go_wp2_with fail
      go_at_call 16
      refine (toIntS_any p n cap V hn _ (hold.ext (by repeat (first | exact Ext.refl _ | with_reducible assumption | apply Ext.alloc | apply Ext.drew | apply Ext.drewN | (refine Ext.setRow ?_ (by first | (simp; done) | (simp; omega) | omega) _) | (refine Ext.setCell ?_ (by first | (simp; done) | (simp; omega) | omega) _) | (refine Ext.trans ?_ (by with_reducible assumption)))))).mono ?_
      rintro rv w2 ⟨t2, rfl, _, r2, hb⟩
      have hb0 : Ext w1 w2 := Ext.trans (by repeat (first | exact Ext.refl _ | with_reducible assumption | apply Ext.alloc | apply Ext.drew | apply Ext.drewN | (refine Ext.setRow ?_ (by first | (simp; done) | (simp; omega) | omega) _) | (refine Ext.setCell ?_ (by first | (simp; done) | (simp; omega) | omega) _) | (refine Ext.trans ?_ (by with_reducible assumption)))) hb
      have z2 : w1.heap.size ≤ w2.heap.size := hb0.size
      have x2 : Ext w w2 := Ext.trans x1 hb0
      have u0_2 : w.heap.size < w2.heap.size := hb0.lt u0_1
      have c0_0_2 : w2.cell? ⟨w.heap.size, 0, none⟩ = some (.int .i64 e) := (hb0.cells _ _ u0_1).trans c0_0_1
      have c0_1_2 : w2.cell? ⟨w.heap.size, 1, none⟩ = some (.int .i64 f) := (hb0.cells _ _ u0_1).trans c0_1_1
      clear x1 u0_1 c0_0_1 c0_1_1
      clear hb hb0
      go_wp2_with fail
      go_at_call 36
      refine (SA.out _ _ (row_ext r2 (by repeat (first | exact Ext.refl _ | with_reducible assumption | apply Ext.alloc | apply Ext.drew | apply Ext.drewN | (refine Ext.setRow ?_ (by first | (simp; done) | (simp; omega) | omega) _) | (refine Ext.setCell ?_ (by first | (simp; done) | (simp; omega) | omega) _) | (refine Ext.trans ?_ (by with_reducible assumption)))))).mono ?_
      rintro rv w3 ⟨pS, cS, rfl, S3, _, hb⟩
      have hb0 : Ext w2 w3 := Ext.trans (by repeat (first | exact Ext.refl _ | with_reducible assumption | apply Ext.alloc | apply Ext.drew | apply Ext.drewN | (refine Ext.setRow ?_ (by first | (simp; done) | (simp; omega) | omega) _) | (refine Ext.setCell ?_ (by first | (simp; done) | (simp; omega) | omega) _) | (refine Ext.trans ?_ (by with_reducible assumption)))) hb
      have z3 : w2.heap.size ≤ w3.heap.size := hb0.size
      have x3 : Ext w w3 := Ext.trans x2 hb0
      have u0_3 : w.heap.size < w3.heap.size := hb0.lt u0_2
      have c0_0_3 : w3.cell? ⟨w.heap.size, 0, none⟩ = some (.int .i64 e) := (hb0.cells _ _ u0_2).trans c0_0_2
      have c0_1_3 : w3.cell? ⟨w.heap.size, 1, none⟩ = some (.int .i64 f) := (hb0.cells _ _ u0_2).trans c0_1_2
      have r3 := row_ext r2 hb0
      clear x2 u0_2 c0_0_2 c0_1_2 r2
      clear r3
      have KS : 0 < m → ∀ b, pS = some (⟨b, 0, none⟩ : Addr) → b < w3.heap.size := fun hn b hb => S3.lt hn hb
      clear hb hb0
      go_wp2_with fail
      go_at_call 16
      refine (toIntS_any p n cap V hn _ (hold.ext (by repeat (first | exact Ext.refl _ | with_reducible assumption | apply Ext.alloc | apply Ext.drew | apply Ext.drewN | (refine Ext.setRow ?_ (by first | (simp; done) | (simp; omega) | omega) _) | (refine Ext.setCell ?_ (by first | (simp; done) | (simp; omega) | omega) _) | (refine Ext.trans ?_ (by with_reducible assumption)))))).mono ?_
      rintro rv w4 ⟨t4, rfl, q4, r4, hb⟩
      have hb0 : Ext w3 w4 := Ext.trans (by repeat (first | exact Ext.refl _ | with_reducible assumption | apply Ext.alloc | apply Ext.drew | apply Ext.drewN | (refine Ext.setRow ?_ (by first | (simp; done) | (simp; omega) | omega) _) | (refine Ext.setCell ?_ (by first | (simp; done) | (simp; omega) | omega) _) | (refine Ext.trans ?_ (by with_reducible assumption)))) hb
      have z4 : w3.heap.size ≤ w4.heap.size := hb0.size
      have x4 : Ext w w4 := Ext.trans x3 hb0
      have u0_4 : w.heap.size < w4.heap.size := hb0.lt u0_3
      have c0_0_4 : w4.cell? ⟨w.heap.size, 0, none⟩ = some (.int .i64 e) := (hb0.cells _ _ u0_3).trans c0_0_3
      have c0_1_4 : w4.cell? ⟨w.heap.size, 1, none⟩ = some (.int .i64 f) := (hb0.cells _ _ u0_3).trans c0_1_3
      have S4 := S3.ext hb0
      clear x3 u0_3 c0_0_3 c0_1_3 S3
      have u1_4 : w3.heap.size < w4.heap.size := hb.lt (by first | (simp; done) | (simp; omega))
      have c1_0_4 : w4.cell? ⟨w3.heap.size, 0, none⟩ = some (.int .i64 R) := (hb.cells _ _ (by first | (simp; done) | (simp; omega))).trans (by first | (simp; done) | (simp [go_sem]; done) | (simp [go_sem, *]; done))
      have c1_1_4 : w4.cell? ⟨w3.heap.size, 1, none⟩ = some (.slice pS m cS) := (hb.cells _ _ (by first | (simp; done) | (simp; omega))).trans (by first | (simp; done) | (simp [go_sem]; done) | (simp [go_sem, *]; done))
      have X4 := row_own r4
      have q4b : w3.heap.size < t4 := by simp at q4; omega
      have q4c := r4.lt
      clear q4
      clear hb hb0
      go_wp2_with fail
      go_at_call 15
      refine (toFormat_any e f _).mono ?_
      rintro rv w5 ⟨rfl, hb⟩
      have hb0 : Ext w4 w5 := Ext.trans (by repeat (first | exact Ext.refl _ | with_reducible assumption | apply Ext.alloc | apply Ext.drew | apply Ext.drewN | (refine Ext.setRow ?_ (by first | (simp; done) | (simp; omega) | omega) _) | (refine Ext.setCell ?_ (by first | (simp; done) | (simp; omega) | omega) _) | (refine Ext.trans ?_ (by with_reducible assumption)))) hb
      have z5 : w4.heap.size ≤ w5.heap.size := hb0.size
      have x5 : Ext w w5 := Ext.trans x4 hb0
      have u0_5 : w.heap.size < w5.heap.size := hb0.lt u0_4
      have c0_0_5 : w5.cell? ⟨w.heap.size, 0, none⟩ = some (.int .i64 e) := (hb0.cells _ _ u0_4).trans c0_0_4
      have c0_1_5 : w5.cell? ⟨w.heap.size, 1, none⟩ = some (.int .i64 f) := (hb0.cells _ _ u0_4).trans c0_1_4
      have u1_5 : w3.heap.size < w5.heap.size := hb0.lt u1_4
      have c1_0_5 : w5.cell? ⟨w3.heap.size, 0, none⟩ = some (.int .i64 R) := (hb0.cells _ _ u1_4).trans c1_0_4
      have c1_1_5 : w5.cell? ⟨w3.heap.size, 1, none⟩ = some (.slice pS m cS) := (hb0.cells _ _ u1_4).trans c1_1_4
      have S5 := S4.ext hb0
      have X5 := X4.ext hb0
      have r5 := row_ext r4 hb0
      clear x4 u0_4 u1_4 c0_0_4 c0_1_4 c1_0_4 c1_1_4 S4 X4 r4
      clear hb hb0
      go_wp2_with fail
      go_at_call 37
      refine (IA.out _ _ (row_ext r5 (by repeat (first | exact Ext.refl _ | with_reducible assumption | apply Ext.alloc | apply Ext.drew | apply Ext.drewN | (refine Ext.setRow ?_ (by first | (simp; done) | (simp; omega) | omega) _) | (refine Ext.setCell ?_ (by first | (simp; done) | (simp; omega) | omega) _) | (refine Ext.trans ?_ (by with_reducible assumption)))))).mono ?_
      rintro rv w6 ⟨pG, cG, rfl, G6, P6, hb⟩
      have hb0 : Ext w5 w6 := Ext.trans (by repeat (first | exact Ext.refl _ | with_reducible assumption | apply Ext.alloc | apply Ext.drew | apply Ext.drewN | (refine Ext.setRow ?_ (by first | (simp; done) | (simp; omega) | omega) _) | (refine Ext.setCell ?_ (by first | (simp; done) | (simp; omega) | omega) _) | (refine Ext.trans ?_ (by with_reducible assumption)))) hb
      have z6 : w5.heap.size ≤ w6.heap.size := hb0.size
      have x6 : Ext w w6 := Ext.trans x5 hb0
      have u0_6 : w.heap.size < w6.heap.size := hb0.lt u0_5
      have c0_0_6 : w6.cell? ⟨w.heap.size, 0, none⟩ = some (.int .i64 e) := (hb0.cells _ _ u0_5).trans c0_0_5
      have c0_1_6 : w6.cell? ⟨w.heap.size, 1, none⟩ = some (.int .i64 f) := (hb0.cells _ _ u0_5).trans c0_1_5
      have u1_6 : w3.heap.size < w6.heap.size := hb0.lt u1_5
      have c1_0_6 : w6.cell? ⟨w3.heap.size, 0, none⟩ = some (.int .i64 R) := (hb0.cells _ _ u1_5).trans c1_0_5
      have c1_1_6 : w6.cell? ⟨w3.heap.size, 1, none⟩ = some (.slice pS m cS) := (hb0.cells _ _ u1_5).trans c1_1_5
      have S6 := S5.ext hb0
      have X6 := X5.ext hb0
      have r6 := row_ext r5 hb0
      clear x5 u0_5 u1_5 c0_0_5 c0_1_5 c1_0_5 c1_1_5 S5 X5 r5
      clear r6
      have KX : 0 < n → ∀ b, (some (⟨t4, 0, none⟩ : Addr)) = some ⟨b, 0, none⟩ → w3.heap.size < b ∧ b < w5.heap.size := fun hn b hb => (by cases hb; omega)
      have PX : Past (some (⟨t4, 0, none⟩ : Addr)) n w.heap.size := fun hn b hb => (by have := KX hn b hb; omega)
      have KG : 0 < m → ∀ b, pG = some (⟨b, 0, none⟩ : Addr) → w3.heap.size < w5.heap.size ∧ w5.heap.size ≤ b ∧ b < w6.heap.size := fun hn b hb => ⟨by omega, P6 hn b hb, G6.lt hn hb⟩
      have PG : Past pG m w.heap.size := P6.le (by omega)
      clear hb hb0
      go_wp2_with fail
      go_at_call 29
      refine (EQM.out _ _ _ _ _ (G6.ext (by repeat (first | exact Ext.refl _ | with_reducible assumption | apply Ext.alloc | apply Ext.drew | apply Ext.drewN | (refine Ext.setRow ?_ (by first | (simp; done) | (simp; omega) | omega) _) | (refine Ext.setCell ?_ (by first | (simp; done) | (simp; omega) | omega) _) | (refine Ext.trans ?_ (by with_reducible assumption))))) (S6.ext (by repeat (first | exact Ext.refl _ | with_reducible assumption | apply Ext.alloc | apply Ext.drew | apply Ext.drewN | (refine Ext.setRow ?_ (by first | (simp; done) | (simp; omega) | omega) _) | (refine Ext.setCell ?_ (by first | (simp; done) | (simp; omega) | omega) _) | (refine Ext.trans ?_ (by with_reducible assumption)))))).mono ?_
      rintro rv w7 ⟨rfl, hb⟩
      have hb0 : Ext w6 w7 := Ext.trans (by repeat (first | exact Ext.refl _ | with_reducible assumption | apply Ext.alloc | apply Ext.drew | apply Ext.drewN | (refine Ext.setRow ?_ (by first | (simp; done) | (simp; omega) | omega) _) | (refine Ext.setCell ?_ (by first | (simp; done) | (simp; omega) | omega) _) | (refine Ext.trans ?_ (by with_reducible assumption)))) hb
      have z7 : w6.heap.size ≤ w7.heap.size := hb0.size
      have x7 : Ext w w7 := Ext.trans x6 hb0
      have u0_7 : w.heap.size < w7.heap.size := hb0.lt u0_6
      have c0_0_7 : w7.cell? ⟨w.heap.size, 0, none⟩ = some (.int .i64 e) := (hb0.cells _ _ u0_6).trans c0_0_6
      have c0_1_7 : w7.cell? ⟨w.heap.size, 1, none⟩ = some (.int .i64 f) := (hb0.cells _ _ u0_6).trans c0_1_6
      have u1_7 : w3.heap.size < w7.heap.size := hb0.lt u1_6
      have c1_0_7 : w7.cell? ⟨w3.heap.size, 0, none⟩ = some (.int .i64 R) := (hb0.cells _ _ u1_6).trans c1_0_6
      have c1_1_7 : w7.cell? ⟨w3.heap.size, 1, none⟩ = some (.slice pS m cS) := (hb0.cells _ _ u1_6).trans c1_1_6
      have S7 := S6.ext hb0
      have X7 := X6.ext hb0
      have G7 := G6.ext hb0
      clear x6 u0_6 u1_6 c0_0_6 c0_1_6 c1_0_6 c1_1_6 S6 X6 G6
      have u2_7 : w6.heap.size < w7.heap.size := hb.lt (by first | (simp; done) | (simp; omega))
      have c2_0_7 : w7.cell? ⟨w6.heap.size, 0, none⟩ = some (.int .i64 R) := (hb.cells _ _ (by first | (simp; done) | (simp; omega))).trans (by first | (simp; done) | (simp [go_sem]; done) | (simp [go_sem, *]; done))
      have c2_1_7 : w7.cell? ⟨w6.heap.size, 1, none⟩ = some (.slice pG m cG) := (hb.cells _ _ (by first | (simp; done) | (simp; omega))).trans (by first | (simp; done) | (simp [go_sem]; done) | (simp [go_sem, *]; done))
      clear hb hb0
      go_wp2_with fail
      go_at_call 16
      refine (toIntS_any p n cap V hn _ (hold.ext (by repeat (first | exact Ext.refl _ | with_reducible assumption | apply Ext.alloc | apply Ext.drew | apply Ext.drewN | (refine Ext.setRow ?_ (by first | (simp; done) | (simp; omega) | omega) _) | (refine Ext.setCell ?_ (by first | (simp; done) | (simp; omega) | omega) _) | (refine Ext.trans ?_ (by with_reducible assumption)))))).mono ?_
      rintro rv w8 ⟨t8, rfl, _, r8, hb⟩
      have hb0 : Ext w7 w8 := Ext.trans (by repeat (first | exact Ext.refl _ | with_reducible assumption | apply Ext.alloc | apply Ext.drew | apply Ext.drewN | (refine Ext.setRow ?_ (by first | (simp; done) | (simp; omega) | omega) _) | (refine Ext.setCell ?_ (by first | (simp; done) | (simp; omega) | omega) _) | (refine Ext.trans ?_ (by with_reducible assumption)))) hb
      have z8 : w7.heap.size ≤ w8.heap.size := hb0.size
      have x8 : Ext w w8 := Ext.trans x7 hb0
      have u0_8 : w.heap.size < w8.heap.size := hb0.lt u0_7
      have c0_0_8 : w8.cell? ⟨w.heap.size, 0, none⟩ = some (.int .i64 e) := (hb0.cells _ _ u0_7).trans c0_0_7
      have c0_1_8 : w8.cell? ⟨w.heap.size, 1, none⟩ = some (.int .i64 f) := (hb0.cells _ _ u0_7).trans c0_1_7
      have u1_8 : w3.heap.size < w8.heap.size := hb0.lt u1_7
      have c1_0_8 : w8.cell? ⟨w3.heap.size, 0, none⟩ = some (.int .i64 R) := (hb0.cells _ _ u1_7).trans c1_0_7
      have c1_1_8 : w8.cell? ⟨w3.heap.size, 1, none⟩ = some (.slice pS m cS) := (hb0.cells _ _ u1_7).trans c1_1_7
      have u2_8 : w6.heap.size < w8.heap.size := hb0.lt u2_7
      have c2_0_8 : w8.cell? ⟨w6.heap.size, 0, none⟩ = some (.int .i64 R) := (hb0.cells _ _ u2_7).trans c2_0_7
      have c2_1_8 : w8.cell? ⟨w6.heap.size, 1, none⟩ = some (.slice pG m cG) := (hb0.cells _ _ u2_7).trans c2_1_7
      have S8 := S7.ext hb0
      have X8 := X7.ext hb0
      have G8 := G7.ext hb0
      clear x7 u0_7 u1_7 u2_7 c0_0_7 c0_1_7 c1_0_7 c1_1_7 c2_0_7 c2_1_7 S7 X7 G7
      clear hb hb0
      go_wp2_with fail
      go_at_call 18
      refine (EQN.out _ _ _ _ _ (X8.ext (by repeat (first | exact Ext.refl _ | with_reducible assumption | apply Ext.alloc | apply Ext.drew | apply Ext.drewN | (refine Ext.setRow ?_ (by first | (simp; done) | (simp; omega) | omega) _) | (refine Ext.setCell ?_ (by first | (simp; done) | (simp; omega) | omega) _) | (refine Ext.trans ?_ (by with_reducible assumption))))) ((row_own r8).ext (by repeat (first | exact Ext.refl _ | with_reducible assumption | apply Ext.alloc | apply Ext.drew | apply Ext.drewN | (refine Ext.setRow ?_ (by first | (simp; done) | (simp; omega) | omega) _) | (refine Ext.setCell ?_ (by first | (simp; done) | (simp; omega) | omega) _) | (refine Ext.trans ?_ (by with_reducible assumption)))))).mono ?_
      rintro rv w9 ⟨rfl, hb⟩
      have hb0 : Ext w8 w9 := Ext.trans (by repeat (first | exact Ext.refl _ | with_reducible assumption | apply Ext.alloc | apply Ext.drew | apply Ext.drewN | (refine Ext.setRow ?_ (by first | (simp; done) | (simp; omega) | omega) _) | (refine Ext.setCell ?_ (by first | (simp; done) | (simp; omega) | omega) _) | (refine Ext.trans ?_ (by with_reducible assumption)))) hb
      have z9 : w8.heap.size ≤ w9.heap.size := hb0.size
      have x9 : Ext w w9 := Ext.trans x8 hb0
      have u0_9 : w.heap.size < w9.heap.size := hb0.lt u0_8
      have c0_0_9 : w9.cell? ⟨w.heap.size, 0, none⟩ = some (.int .i64 e) := (hb0.cells _ _ u0_8).trans c0_0_8
      have c0_1_9 : w9.cell? ⟨w.heap.size, 1, none⟩ = some (.int .i64 f) := (hb0.cells _ _ u0_8).trans c0_1_8
      have u1_9 : w3.heap.size < w9.heap.size := hb0.lt u1_8
      have c1_0_9 : w9.cell? ⟨w3.heap.size, 0, none⟩ = some (.int .i64 R) := (hb0.cells _ _ u1_8).trans c1_0_8
      have c1_1_9 : w9.cell? ⟨w3.heap.size, 1, none⟩ = some (.slice pS m cS) := (hb0.cells _ _ u1_8).trans c1_1_8
      have u2_9 : w6.heap.size < w9.heap.size := hb0.lt u2_8
      have c2_0_9 : w9.cell? ⟨w6.heap.size, 0, none⟩ = some (.int .i64 R) := (hb0.cells _ _ u2_8).trans c2_0_8
      have c2_1_9 : w9.cell? ⟨w6.heap.size, 1, none⟩ = some (.slice pG m cG) := (hb0.cells _ _ u2_8).trans c2_1_8
      have S9 := S8.ext hb0
      have X9 := X8.ext hb0
      have G9 := G8.ext hb0
      have r9 := row_ext r8 hb0
      clear x8 u0_8 u1_8 u2_8 c0_0_8 c0_1_8 c1_0_8 c1_1_8 c2_0_8 c2_1_8 S8 X8 G8 r8
      clear r9
      clear hb hb0
      go_wp2_with fail
      go_at_call 19
      refine (MKN.out _ _ _ X9).mono ?_
      rintro rv w10 ⟨rfl, hm0⟩
      have hm := hm0.toB
      clear hm0
      have z10 : w9.heap.size ≤ w10.heap.size := hm.size
      have x10 : Ext w w10 := markB_ext x9 hm PX
      have u0_10 : w.heap.size < w10.heap.size := by omega
      have f0_10 : w10.heap[w.heap.size]? = w9.heap[w.heap.size]? := hm.far _ u0_9 (fun hn b hb2 => by have hbb := KX hn b hb2; omega)
      have c0_0_10 : w10.cell? ⟨w.heap.size, 0, none⟩ = some (.int .i64 e) := (World.cell?_of_block f0_10).trans c0_0_9
      have c0_1_10 : w10.cell? ⟨w.heap.size, 1, none⟩ = some (.int .i64 f) := (World.cell?_of_block f0_10).trans c0_1_9
      have u1_10 : w3.heap.size < w10.heap.size := by omega
      have f1_10 : w10.heap[w3.heap.size]? = w9.heap[w3.heap.size]? := hm.far _ u1_9 (fun hn b hb2 => by have hbb := KX hn b hb2; omega)
      have c1_0_10 : w10.cell? ⟨w3.heap.size, 0, none⟩ = some (.int .i64 R) := (World.cell?_of_block f1_10).trans c1_0_9
      have c1_1_10 : w10.cell? ⟨w3.heap.size, 1, none⟩ = some (.slice pS m cS) := (World.cell?_of_block f1_10).trans c1_1_9
      have u2_10 : w6.heap.size < w10.heap.size := by omega
      have f2_10 : w10.heap[w6.heap.size]? = w9.heap[w6.heap.size]? := hm.far _ u2_9 (fun hn b hb2 => by have hbb := KX hn b hb2; omega)
      have c2_0_10 : w10.cell? ⟨w6.heap.size, 0, none⟩ = some (.int .i64 R) := (World.cell?_of_block f2_10).trans c2_0_9
      have c2_1_10 : w10.cell? ⟨w6.heap.size, 1, none⟩ = some (.slice pG m cG) := (World.cell?_of_block f2_10).trans c2_1_9
      have S10 := S9.block (fun hn b hb2 => hm.far _ (S9.lt hn hb2) (fun hn2 b2 hb3 => by have hbb := KX hn2 b2 hb3; have hbc := KS hn b hb2; omega))
      have G10 := G9.block (fun hn b hb2 => hm.far _ (G9.lt hn hb2) (fun hn2 b2 hb3 => by have hbb := KX hn2 b2 hb3; have hbc := KG hn b hb2; omega))
      clear hm x9 u0_9 u1_9 u2_9 f0_10 f1_10 f2_10 c0_0_9 c0_1_9 c1_0_9 c1_1_9 c2_0_9 c2_1_9 S9 X9 G9
      go_wp2_with fail
      go_at_call 29
      refine (EQM.out _ _ _ _ _ (G10.ext (by repeat (first | exact Ext.refl _ | with_reducible assumption | apply Ext.alloc | apply Ext.drew | apply Ext.drewN | (refine Ext.setRow ?_ (by first | (simp; done) | (simp; omega) | omega) _) | (refine Ext.setCell ?_ (by first | (simp; done) | (simp; omega) | omega) _) | (refine Ext.trans ?_ (by with_reducible assumption))))) (S10.ext (by repeat (first | exact Ext.refl _ | with_reducible assumption | apply Ext.alloc | apply Ext.drew | apply Ext.drewN | (refine Ext.setRow ?_ (by first | (simp; done) | (simp; omega) | omega) _) | (refine Ext.setCell ?_ (by first | (simp; done) | (simp; omega) | omega) _) | (refine Ext.trans ?_ (by with_reducible assumption)))))).mono ?_
      rintro rv w11 ⟨rfl, hb⟩
      have hb0 : Ext w10 w11 := Ext.trans (by repeat (first | exact Ext.refl _ | with_reducible assumption | apply Ext.alloc | apply Ext.drew | apply Ext.drewN | (refine Ext.setRow ?_ (by first | (simp; done) | (simp; omega) | omega) _) | (refine Ext.setCell ?_ (by first | (simp; done) | (simp; omega) | omega) _) | (refine Ext.trans ?_ (by with_reducible assumption)))) hb
      have z11 : w10.heap.size ≤ w11.heap.size := hb0.size
      have x11 : Ext w w11 := Ext.trans x10 hb0
      have u0_11 : w.heap.size < w11.heap.size := hb0.lt u0_10
      have c0_0_11 : w11.cell? ⟨w.heap.size, 0, none⟩ = some (.int .i64 e) := (hb0.cells _ _ u0_10).trans c0_0_10
      have c0_1_11 : w11.cell? ⟨w.heap.size, 1, none⟩ = some (.int .i64 f) := (hb0.cells _ _ u0_10).trans c0_1_10
      have u1_11 : w3.heap.size < w11.heap.size := hb0.lt u1_10
      have c1_0_11 : w11.cell? ⟨w3.heap.size, 0, none⟩ = some (.int .i64 R) := (hb0.cells _ _ u1_10).trans c1_0_10
      have c1_1_11 : w11.cell? ⟨w3.heap.size, 1, none⟩ = some (.slice pS m cS) := (hb0.cells _ _ u1_10).trans c1_1_10
      have u2_11 : w6.heap.size < w11.heap.size := hb0.lt u2_10
      have c2_0_11 : w11.cell? ⟨w6.heap.size, 0, none⟩ = some (.int .i64 R) := (hb0.cells _ _ u2_10).trans c2_0_10
      have c2_1_11 : w11.cell? ⟨w6.heap.size, 1, none⟩ = some (.slice pG m cG) := (hb0.cells _ _ u2_10).trans c2_1_10
      have S11 := S10.ext hb0
      have G11 := G10.ext hb0
      clear x10 u0_10 u1_10 u2_10 c0_0_10 c0_1_10 c1_0_10 c1_1_10 c2_0_10 c2_1_10 S10 G10
      clear hb hb0
      go_wp2_with fail
      go_at_call 34
      refine (MKM.out _ _ _ G11).mono ?_
      rintro rv w12 ⟨rfl, hm0⟩
      have hm := hm0
      clear hm0
      have z12 : w11.heap.size ≤ w12.heap.size := hm.size
      have x12 : Ext w w12 := markB_ext x11 hm PG
      have u0_12 : w.heap.size < w12.heap.size := by omega
      have f0_12 : w12.heap[w.heap.size]? = w11.heap[w.heap.size]? := hm.far _ u0_11 (fun hn b hb2 => by have hbb := KG hn b hb2; omega)
      have c0_0_12 : w12.cell? ⟨w.heap.size, 0, none⟩ = some (.int .i64 e) := (World.cell?_of_block f0_12).trans c0_0_11
      have c0_1_12 : w12.cell? ⟨w.heap.size, 1, none⟩ = some (.int .i64 f) := (World.cell?_of_block f0_12).trans c0_1_11
      have u1_12 : w3.heap.size < w12.heap.size := by omega
      have f1_12 : w12.heap[w3.heap.size]? = w11.heap[w3.heap.size]? := hm.far _ u1_11 (fun hn b hb2 => by have hbb := KG hn b hb2; omega)
      have c1_0_12 : w12.cell? ⟨w3.heap.size, 0, none⟩ = some (.int .i64 R) := (World.cell?_of_block f1_12).trans c1_0_11
      have c1_1_12 : w12.cell? ⟨w3.heap.size, 1, none⟩ = some (.slice pS m cS) := (World.cell?_of_block f1_12).trans c1_1_11
      have u2_12 : w6.heap.size < w12.heap.size := by omega
      have f2_12 : w12.heap[w6.heap.size]? = w11.heap[w6.heap.size]? := hm.far _ u2_11 (fun hn b hb2 => by have hbb := KG hn b hb2; omega)
      have c2_0_12 : w12.cell? ⟨w6.heap.size, 0, none⟩ = some (.int .i64 R) := (World.cell?_of_block f2_12).trans c2_0_11
      have c2_1_12 : w12.cell? ⟨w6.heap.size, 1, none⟩ = some (.slice pG m cG) := (World.cell?_of_block f2_12).trans c2_1_11
      have S12 := S11.block (fun hn b hb2 => hm.far _ (S11.lt hn hb2) (fun hn2 b2 hb3 => by have hbb := KG hn2 b2 hb3; have hbc := KS hn b hb2; omega))
      have G12 := hm.row
      clear hm x11 u0_11 u1_11 u2_11 f0_12 f1_12 f2_12 c0_0_11 c0_1_11 c1_0_11 c1_1_11 c2_0_11 c2_1_11 S11 G11
      go_wp2_with fail
      go_at_call 35
      refine (HLM.out _ _ _ (G12.ext (by repeat (first | exact Ext.refl _ | with_reducible assumption | apply Ext.alloc | apply Ext.drew | apply Ext.drewN | (refine Ext.setRow ?_ (by first | (simp; done) | (simp; omega) | omega) _) | (refine Ext.setCell ?_ (by first | (simp; done) | (simp; omega) | omega) _) | (refine Ext.trans ?_ (by with_reducible assumption)))))).mono ?_
      rintro rv w13 ⟨rfl, hb⟩
      have hb0 : Ext w12 w13 := Ext.trans (by repeat (first | exact Ext.refl _ | with_reducible assumption | apply Ext.alloc | apply Ext.drew | apply Ext.drewN | (refine Ext.setRow ?_ (by first | (simp; done) | (simp; omega) | omega) _) | (refine Ext.setCell ?_ (by first | (simp; done) | (simp; omega) | omega) _) | (refine Ext.trans ?_ (by with_reducible assumption)))) hb
      have z13 : w12.heap.size ≤ w13.heap.size := hb0.size
      have x13 : Ext w w13 := Ext.trans x12 hb0
      have u0_13 : w.heap.size < w13.heap.size := hb0.lt u0_12
      have c0_0_13 : w13.cell? ⟨w.heap.size, 0, none⟩ = some (.int .i64 e) := (hb0.cells _ _ u0_12).trans c0_0_12
      have c0_1_13 : w13.cell? ⟨w.heap.size, 1, none⟩ = some (.int .i64 f) := (hb0.cells _ _ u0_12).trans c0_1_12
      have u1_13 : w3.heap.size < w13.heap.size := hb0.lt u1_12
      have c1_0_13 : w13.cell? ⟨w3.heap.size, 0, none⟩ = some (.int .i64 R) := (hb0.cells _ _ u1_12).trans c1_0_12
      have c1_1_13 : w13.cell? ⟨w3.heap.size, 1, none⟩ = some (.slice pS m cS) := (hb0.cells _ _ u1_12).trans c1_1_12
      have u2_13 : w6.heap.size < w13.heap.size := hb0.lt u2_12
      have c2_0_13 : w13.cell? ⟨w6.heap.size, 0, none⟩ = some (.int .i64 R) := (hb0.cells _ _ u2_12).trans c2_0_12
      have c2_1_13 : w13.cell? ⟨w6.heap.size, 1, none⟩ = some (.slice pG m cG) := (hb0.cells _ _ u2_12).trans c2_1_12
      have S13 := S12.ext hb0
      have G13 := G12.ext hb0
      clear x12 u0_12 u1_12 u2_12 c0_0_12 c0_1_12 c1_0_12 c1_1_12 c2_0_12 c2_1_12 S12 G12
      clear hb hb0
      go_wp2_with fail
      go_at_call 15
      refine (toFormat_any e f _).mono ?_
      rintro rv w14 ⟨rfl, hb⟩
      have hb0 : Ext w13 w14 := Ext.trans (by repeat (first | exact Ext.refl _ | with_reducible assumption | apply Ext.alloc | apply Ext.drew | apply Ext.drewN | (refine Ext.setRow ?_ (by first | (simp; done) | (simp; omega) | omega) _) | (refine Ext.setCell ?_ (by first | (simp; done) | (simp; omega) | omega) _) | (refine Ext.trans ?_ (by with_reducible assumption)))) hb
      have z14 : w13.heap.size ≤ w14.heap.size := hb0.size
      have x14 : Ext w w14 := Ext.trans x13 hb0
      have u0_14 : w.heap.size < w14.heap.size := hb0.lt u0_13
      have c0_0_14 : w14.cell? ⟨w.heap.size, 0, none⟩ = some (.int .i64 e) := (hb0.cells _ _ u0_13).trans c0_0_13
      have c0_1_14 : w14.cell? ⟨w.heap.size, 1, none⟩ = some (.int .i64 f) := (hb0.cells _ _ u0_13).trans c0_1_13
      have u1_14 : w3.heap.size < w14.heap.size := hb0.lt u1_13
      have c1_0_14 : w14.cell? ⟨w3.heap.size, 0, none⟩ = some (.int .i64 R) := (hb0.cells _ _ u1_13).trans c1_0_13
      have c1_1_14 : w14.cell? ⟨w3.heap.size, 1, none⟩ = some (.slice pS m cS) := (hb0.cells _ _ u1_13).trans c1_1_13
      have u2_14 : w6.heap.size < w14.heap.size := hb0.lt u2_13
      have c2_0_14 : w14.cell? ⟨w6.heap.size, 0, none⟩ = some (.int .i64 R) := (hb0.cells _ _ u2_13).trans c2_0_13
      have c2_1_14 : w14.cell? ⟨w6.heap.size, 1, none⟩ = some (.slice pG m cG) := (hb0.cells _ _ u2_13).trans c2_1_13
      have S14 := S13.ext hb0
      have G14 := G13.ext hb0
      clear x13 u0_13 u1_13 u2_13 c0_0_13 c0_1_13 c1_0_13 c1_1_13 c2_0_13 c2_1_13 S13 G13
      clear hb hb0
      go_wp2_with fail
      go_at_call 16
      refine (toIntS_any p n cap V hn _ (hold.ext (by repeat (first | exact Ext.refl _ | with_reducible assumption | apply Ext.alloc | apply Ext.drew | apply Ext.drewN | (refine Ext.setRow ?_ (by first | (simp; done) | (simp; omega) | omega) _) | (refine Ext.setCell ?_ (by first | (simp; done) | (simp; omega) | omega) _) | (refine Ext.trans ?_ (by with_reducible assumption)))))).mono ?_
      rintro rv w15 ⟨t15, rfl, _, r15, hb⟩
      have hb0 : Ext w14 w15 := Ext.trans (by repeat (first | exact Ext.refl _ | with_reducible assumption | apply Ext.alloc | apply Ext.drew | apply Ext.drewN | (refine Ext.setRow ?_ (by first | (simp; done) | (simp; omega) | omega) _) | (refine Ext.setCell ?_ (by first | (simp; done) | (simp; omega) | omega) _) | (refine Ext.trans ?_ (by with_reducible assumption)))) hb
      have z15 : w14.heap.size ≤ w15.heap.size := hb0.size
      have x15 : Ext w w15 := Ext.trans x14 hb0
      have u0_15 : w.heap.size < w15.heap.size := hb0.lt u0_14
      have c0_0_15 : w15.cell? ⟨w.heap.size, 0, none⟩ = some (.int .i64 e) := (hb0.cells _ _ u0_14).trans c0_0_14
      have c0_1_15 : w15.cell? ⟨w.heap.size, 1, none⟩ = some (.int .i64 f) := (hb0.cells _ _ u0_14).trans c0_1_14
      have u1_15 : w3.heap.size < w15.heap.size := hb0.lt u1_14
      have c1_0_15 : w15.cell? ⟨w3.heap.size, 0, none⟩ = some (.int .i64 R) := (hb0.cells _ _ u1_14).trans c1_0_14
      have c1_1_15 : w15.cell? ⟨w3.heap.size, 1, none⟩ = some (.slice pS m cS) := (hb0.cells _ _ u1_14).trans c1_1_14
      have u2_15 : w6.heap.size < w15.heap.size := hb0.lt u2_14
      have c2_0_15 : w15.cell? ⟨w6.heap.size, 0, none⟩ = some (.int .i64 R) := (hb0.cells _ _ u2_14).trans c2_0_14
      have c2_1_15 : w15.cell? ⟨w6.heap.size, 1, none⟩ = some (.slice pG m cG) := (hb0.cells _ _ u2_14).trans c2_1_14
      have S15 := S14.ext hb0
      have G15 := G14.ext hb0
      clear x14 u0_14 u1_14 u2_14 c0_0_14 c0_1_14 c1_0_14 c1_1_14 c2_0_14 c2_1_14 S14 G14
      clear hb hb0
      go_wp2_with fail
      go_at_call 37
      refine (IA.out _ _ (row_ext r15 (by repeat (first | exact Ext.refl _ | with_reducible assumption | apply Ext.alloc | apply Ext.drew | apply Ext.drewN | (refine Ext.setRow ?_ (by first | (simp; done) | (simp; omega) | omega) _) | (refine Ext.setCell ?_ (by first | (simp; done) | (simp; omega) | omega) _) | (refine Ext.trans ?_ (by with_reducible assumption)))))).mono ?_
      rintro rv w16 ⟨pH, cH, rfl, H16, _, hb⟩
      have hb0 : Ext w15 w16 := Ext.trans (by repeat (first | exact Ext.refl _ | with_reducible assumption | apply Ext.alloc | apply Ext.drew | apply Ext.drewN | (refine Ext.setRow ?_ (by first | (simp; done) | (simp; omega) | omega) _) | (refine Ext.setCell ?_ (by first | (simp; done) | (simp; omega) | omega) _) | (refine Ext.trans ?_ (by with_reducible assumption)))) hb
      have z16 : w15.heap.size ≤ w16.heap.size := hb0.size
      have x16 : Ext w w16 := Ext.trans x15 hb0
      have u0_16 : w.heap.size < w16.heap.size := hb0.lt u0_15
      have c0_0_16 : w16.cell? ⟨w.heap.size, 0, none⟩ = some (.int .i64 e) := (hb0.cells _ _ u0_15).trans c0_0_15
      have c0_1_16 : w16.cell? ⟨w.heap.size, 1, none⟩ = some (.int .i64 f) := (hb0.cells _ _ u0_15).trans c0_1_15
      have u1_16 : w3.heap.size < w16.heap.size := hb0.lt u1_15
      have c1_0_16 : w16.cell? ⟨w3.heap.size, 0, none⟩ = some (.int .i64 R) := (hb0.cells _ _ u1_15).trans c1_0_15
      have c1_1_16 : w16.cell? ⟨w3.heap.size, 1, none⟩ = some (.slice pS m cS) := (hb0.cells _ _ u1_15).trans c1_1_15
      have u2_16 : w6.heap.size < w16.heap.size := hb0.lt u2_15
      have c2_0_16 : w16.cell? ⟨w6.heap.size, 0, none⟩ = some (.int .i64 R) := (hb0.cells _ _ u2_15).trans c2_0_15
      have c2_1_16 : w16.cell? ⟨w6.heap.size, 1, none⟩ = some (.slice pG m cG) := (hb0.cells _ _ u2_15).trans c2_1_15
      have S16 := S15.ext hb0
      have G16 := G15.ext hb0
      have r16 := row_ext r15 hb0
      clear x15 u0_15 u1_15 u2_15 c0_0_15 c0_1_15 c1_0_15 c1_1_15 c2_0_15 c2_1_15 S15 G15 r15
      clear r16
      clear hb hb0
      go_wp2_with fail
      go_at_call 29
      refine (EQM.out _ _ _ _ _ (H16.ext (by repeat (first | exact Ext.refl _ | with_reducible assumption | apply Ext.alloc | apply Ext.drew | apply Ext.drewN | (refine Ext.setRow ?_ (by first | (simp; done) | (simp; omega) | omega) _) | (refine Ext.setCell ?_ (by first | (simp; done) | (simp; omega) | omega) _) | (refine Ext.trans ?_ (by with_reducible assumption))))) (S16.ext (by repeat (first | exact Ext.refl _ | with_reducible assumption | apply Ext.alloc | apply Ext.drew | apply Ext.drewN | (refine Ext.setRow ?_ (by first | (simp; done) | (simp; omega) | omega) _) | (refine Ext.setCell ?_ (by first | (simp; done) | (simp; omega) | omega) _) | (refine Ext.trans ?_ (by with_reducible assumption)))))).mono ?_
      rintro rv w17 ⟨rfl, hb⟩
      have hb0 : Ext w16 w17 := Ext.trans (by repeat (first | exact Ext.refl _ | with_reducible assumption | apply Ext.alloc | apply Ext.drew | apply Ext.drewN | (refine Ext.setRow ?_ (by first | (simp; done) | (simp; omega) | omega) _) | (refine Ext.setCell ?_ (by first | (simp; done) | (simp; omega) | omega) _) | (refine Ext.trans ?_ (by with_reducible assumption)))) hb
      have z17 : w16.heap.size ≤ w17.heap.size := hb0.size
      have x17 : Ext w w17 := Ext.trans x16 hb0
      have u0_17 : w.heap.size < w17.heap.size := hb0.lt u0_16
      have c0_0_17 : w17.cell? ⟨w.heap.size, 0, none⟩ = some (.int .i64 e) := (hb0.cells _ _ u0_16).trans c0_0_16
      have c0_1_17 : w17.cell? ⟨w.heap.size, 1, none⟩ = some (.int .i64 f) := (hb0.cells _ _ u0_16).trans c0_1_16
      have u1_17 : w3.heap.size < w17.heap.size := hb0.lt u1_16
      have c1_0_17 : w17.cell? ⟨w3.heap.size, 0, none⟩ = some (.int .i64 R) := (hb0.cells _ _ u1_16).trans c1_0_16
      have c1_1_17 : w17.cell? ⟨w3.heap.size, 1, none⟩ = some (.slice pS m cS) := (hb0.cells _ _ u1_16).trans c1_1_16
      have u2_17 : w6.heap.size < w17.heap.size := hb0.lt u2_16
      have c2_0_17 : w17.cell? ⟨w6.heap.size, 0, none⟩ = some (.int .i64 R) := (hb0.cells _ _ u2_16).trans c2_0_16
      have c2_1_17 : w17.cell? ⟨w6.heap.size, 1, none⟩ = some (.slice pG m cG) := (hb0.cells _ _ u2_16).trans c2_1_16
      have S17 := S16.ext hb0
      have G17 := G16.ext hb0
      have H17 := H16.ext hb0
      clear x16 u0_16 u1_16 u2_16 c0_0_16 c0_1_16 c1_0_16 c1_1_16 c2_0_16 c2_1_16 S16 G16 H16
      have u3_17 : w16.heap.size < w17.heap.size := hb.lt (by first | (simp; done) | (simp; omega))
      have c3_0_17 : w17.cell? ⟨w16.heap.size, 0, none⟩ = some (.int .i64 R) := (hb.cells _ _ (by first | (simp; done) | (simp; omega))).trans (by first | (simp; done) | (simp [go_sem]; done) | (simp [go_sem, *]; done))
      have c3_1_17 : w17.cell? ⟨w16.heap.size, 1, none⟩ = some (.slice pH m cH) := (hb.cells _ _ (by first | (simp; done) | (simp; omega))).trans (by first | (simp; done) | (simp [go_sem]; done) | (simp [go_sem, *]; done))
      clear hb hb0
      go_wp2_with fail
      go_at_call 35
      refine (HLM.out _ _ _ (G17.ext (by repeat (first | exact Ext.refl _ | with_reducible assumption | apply Ext.alloc | apply Ext.drew | apply Ext.drewN | (refine Ext.setRow ?_ (by first | (simp; done) | (simp; omega) | omega) _) | (refine Ext.setCell ?_ (by first | (simp; done) | (simp; omega) | omega) _) | (refine Ext.trans ?_ (by with_reducible assumption)))))).mono ?_
      rintro rv w18 ⟨rfl, hb⟩
      have hb0 : Ext w17 w18 := Ext.trans (by repeat (first | exact Ext.refl _ | with_reducible assumption | apply Ext.alloc | apply Ext.drew | apply Ext.drewN | (refine Ext.setRow ?_ (by first | (simp; done) | (simp; omega) | omega) _) | (refine Ext.setCell ?_ (by first | (simp; done) | (simp; omega) | omega) _) | (refine Ext.trans ?_ (by with_reducible assumption)))) hb
      have z18 : w17.heap.size ≤ w18.heap.size := hb0.size
      have x18 : Ext w w18 := Ext.trans x17 hb0
      have u0_18 : w.heap.size < w18.heap.size := hb0.lt u0_17
      have c0_0_18 : w18.cell? ⟨w.heap.size, 0, none⟩ = some (.int .i64 e) := (hb0.cells _ _ u0_17).trans c0_0_17
      have c0_1_18 : w18.cell? ⟨w.heap.size, 1, none⟩ = some (.int .i64 f) := (hb0.cells _ _ u0_17).trans c0_1_17
      have u1_18 : w3.heap.size < w18.heap.size := hb0.lt u1_17
      have c1_0_18 : w18.cell? ⟨w3.heap.size, 0, none⟩ = some (.int .i64 R) := (hb0.cells _ _ u1_17).trans c1_0_17
      have c1_1_18 : w18.cell? ⟨w3.heap.size, 1, none⟩ = some (.slice pS m cS) := (hb0.cells _ _ u1_17).trans c1_1_17
      have u2_18 : w6.heap.size < w18.heap.size := hb0.lt u2_17
      have c2_0_18 : w18.cell? ⟨w6.heap.size, 0, none⟩ = some (.int .i64 R) := (hb0.cells _ _ u2_17).trans c2_0_17
      have c2_1_18 : w18.cell? ⟨w6.heap.size, 1, none⟩ = some (.slice pG m cG) := (hb0.cells _ _ u2_17).trans c2_1_17
      have u3_18 : w16.heap.size < w18.heap.size := hb0.lt u3_17
      have c3_0_18 : w18.cell? ⟨w16.heap.size, 0, none⟩ = some (.int .i64 R) := (hb0.cells _ _ u3_17).trans c3_0_17
      have c3_1_18 : w18.cell? ⟨w16.heap.size, 1, none⟩ = some (.slice pH m cH) := (hb0.cells _ _ u3_17).trans c3_1_17
      have S18 := S17.ext hb0
      have G18 := G17.ext hb0
      have H18 := H17.ext hb0
      clear x17 u0_17 u1_17 u2_17 u3_17 c0_0_17 c0_1_17 c1_0_17 c1_1_17 c2_0_17 c2_1_17 c3_0_17 c3_1_17 S17 G17 H17
      clear hb hb0
      go_wp2_with fail
      go_ret
      exact ⟨rfl, x18⟩

  · have h12 : (1048576 : Int) < (n : Int) := by omega
    go_enter Try.func9, Try.ntmps9
    go_wp2_with fail
    go_ret
    exact ⟨rfl, (by repeat (first | exact Ext.refl _ | with_reducible assumption | apply Ext.alloc | apply Ext.drew | apply Ext.drewN | (refine Ext.setRow ?_ (by first | (simp; done) | (simp; omega) | omega) _) | (refine Ext.setCell ?_ (by first | (simp; done) | (simp; omega) | omega) _) | (refine Ext.trans ?_ (by with_reducible assumption))))⟩

set_option maxHeartbeats 12800000 in
theorem wBlockOf (e f : Int) (p : Option Addr) (n cap : Nat) (V : Nat → Int) (m0 : Int) (w : World) (hold : HoldsL w p n V) : Calls Try.prog 8 #[fmt e f, .slice p n cap, .int .i64 m0] w fun rv w' => rv = .returned (.bool true) ∧ Ext w w' := by
  by_cases hn : n ≤ 1048576
  · have h12 : ¬ (1048576 : Int) < (n : Int) := by omega
    have SA := Lib.hid (fun bb w h => sBlockOf_all e f m0 V bb n hn w h)
    have IA := Lib.hid (fun bb w h => iBlockOf_all e f m0 V bb n w h)
    have hm : (if boB e f m0 V n = true then n else 0) ≤ 1048576 := by split <;> omega
    generalize pQ e f (shP e V n) m0 V = Q at *
    generalize (if boB e f m0 V n = true then shP e V n else 0) = R at *
    generalize (if boB e f m0 V n = true then n else 0) = m at *
    generalize boB e f m0 V n = B at *
    have EQM := Lib.hid (fun p q c1 c2 w hp hq => eqBlock_own R p q m c1 c2 Q hm w hp hq)
    have EQN := Lib.hid (fun p q c1 c2 w hp hq => eqIntS_own p q n c1 c2 V hn w hp hq)
    have MKM := Lib.hid (fun p c w hp => markBlock_own R p m c Q hm w hp)
    have MKN := Lib.hid (fun p c w hp => markIntS_own p n c V hn w hp)
    have HLM := Lib.hid (fun p c w hp => heldBlock_own R p m c hm w hp)
    obtain ⟨M, hM, hM0⟩ : ∃ M : Int, M = 1 + (m : Int) ∧ ¬ M < 0 := ⟨_, rfl, by omega⟩
    obtain ⟨N, hN, hN0⟩ : ∃ N : Int, N = 1 + (n : Int) ∧ ¬ N < 0 := ⟨_, rfl, by omega⟩
    rw [← hM] at MKM HLM
    rw [← hN] at MKN
    clear hM hN hm
    cases B
    all_goals
      go_enter Try.func8, Try.ntmps8
      go_wp2_with fail
      go_at_call 15
      refine (toFormat_any e f _).mono ?_
      rintro rv w1 ⟨rfl, hb⟩
      have hb0 : Ext w w1 := Ext.trans (by repeat (first | exact Ext.refl _ | with_reducible assumption | apply Ext.alloc | apply Ext.drew | apply Ext.drewN | (refine Ext.setRow ?_ (by first | (simp; done) | (simp; omega) | omega) _) | (refine Ext.setCell ?_ (by first | (simp; done) | (simp; omega) | omega) _) | (refine Ext.trans ?_ (by with_reducible assumption)))) hb
      have z1 : w.heap.size ≤ w1.heap.size := hb0.size
      have x1 : Ext w w1 := hb0
      have u0_1 : w.heap.size < w1.heap.size := hb.lt (by first | (simp; done) | (simp; omega))
      have c0_0_1 : w1.cell? ⟨w.heap.size, 0, none⟩ = some (.int .i64 e) := (hb.cells _ _ (by first | (simp; done) | (simp; omega))).trans (by first | (simp; done) | (simp [go_sem]; done) | (simp [go_sem, *]; done))
      have c0_1_1 : w1.cell? ⟨w.heap.size, 1, none⟩ = some (.int .i64 f) := (hb.cells _ _ (by first | (simp; done) | (simp; omega))).trans (by first | (simp; done) | (simp [go_sem]; done) | (simp [go_sem, *]; done))
      clear hb hb0
      go_wp2_with fail
      go_at_call 16
      refine (toIntS_any p n cap V hn _ (hold.ext (by repeat (first | exact Ext.refl _ | with_reducible assumption | apply Ext.alloc | apply Ext.drew | apply Ext.drewN | (refine Ext.setRow ?_ (by first | (simp; done) | (simp; omega) | omega) _) | (refine Ext.setCell ?_ (by first | (simp; done) | (simp; omega) | omega) _) | (refine Ext.trans ?_ (by with_reducible assumption)))))).mono ?_
      rintro rv w2 ⟨t2, rfl, _, r2, hb⟩
      have hb0 : Ext w1 w2 := Ext.trans (by repeat (first | exact Ext.refl _ | with_reducible assumption | apply Ext.alloc | apply Ext.drew | apply Ext.drewN | (refine Ext.setRow ?_ (by first | (simp; done) | (simp; omega) | omega) _) | (refine Ext.setCell ?_ (by first | (simp; done) | (simp; omega) | omega) _) | (refine Ext.trans ?_ (by with_reducible assumption)))) hb
      have z2 : w1.heap.size ≤ w2.heap.size := hb0.size
      have x2 : Ext w w2 := Ext.trans x1 hb0
      have u0_2 : w.heap.size < w2.heap.size := hb0.lt u0_1
      have c0_0_2 : w2.cell? ⟨w.heap.size, 0, none⟩ = some (.int .i64 e) := (hb0.cells _ _ u0_1).trans c0_0_1
      have c0_1_2 : w2.cell? ⟨w.heap.size, 1, none⟩ = some (.int .i64 f) := (hb0.cells _ _ u0_1).trans c0_1_1
      clear x1 u0_1 c0_0_1 c0_1_1
      clear hb hb0
      go_wp2_with fail
      go_at_call 32
      refine (SA.out _ _ (row_ext r2 (by repeat (first | exact Ext.refl _ | with_reducible assumption | apply Ext.alloc | apply Ext.drew | apply Ext.drewN | (refine Ext.setRow ?_ (by first | (simp; done) | (simp; omega) | omega) _) | (refine Ext.setCell ?_ (by first | (simp; done) | (simp; omega) | omega) _) | (refine Ext.trans ?_ (by with_reducible assumption)))))).mono ?_
      rintro rv w3 ⟨pS, cS, rfl, S3, _, hb⟩
      have hb0 : Ext w2 w3 := Ext.trans (by repeat (first | exact Ext.refl _ | with_reducible assumption | apply Ext.alloc | apply Ext.drew | apply Ext.drewN | (refine Ext.setRow ?_ (by first | (simp; done) | (simp; omega) | omega) _) | (refine Ext.setCell ?_ (by first | (simp; done) | (simp; omega) | omega) _) | (refine Ext.trans ?_ (by with_reducible assumption)))) hb
      have z3 : w2.heap.size ≤ w3.heap.size := hb0.size
      have x3 : Ext w w3 := Ext.trans x2 hb0
      have u0_3 : w.heap.size < w3.heap.size := hb0.lt u0_2
      have c0_0_3 : w3.cell? ⟨w.heap.size, 0, none⟩ = some (.int .i64 e) := (hb0.cells _ _ u0_2).trans c0_0_2
      have c0_1_3 : w3.cell? ⟨w.heap.size, 1, none⟩ = some (.int .i64 f) := (hb0.cells _ _ u0_2).trans c0_1_2
      have r3 := row_ext r2 hb0
      clear x2 u0_2 c0_0_2 c0_1_2 r2
      clear r3
      have KS : 0 < m → ∀ b, pS = some (⟨b, 0, none⟩ : Addr) → b < w3.heap.size := fun hn b hb => S3.lt hn hb
      clear hb hb0
      go_wp2_with fail
      go_at_call 16
      refine (toIntS_any p n cap V hn _ (hold.ext (by repeat (first | exact Ext.refl _ | with_reducible assumption | apply Ext.alloc | apply Ext.drew | apply Ext.drewN | (refine Ext.setRow ?_ (by first | (simp; done) | (simp; omega) | omega) _) | (refine Ext.setCell ?_ (by first | (simp; done) | (simp; omega) | omega) _) | (refine Ext.trans ?_ (by with_reducible assumption)))))).mono ?_
      rintro rv w4 ⟨t4, rfl, q4, r4, hb⟩
      have hb0 : Ext w3 w4 := Ext.trans (by repeat (first | exact Ext.refl _ | with_reducible assumption | apply Ext.alloc | apply Ext.drew | apply Ext.drewN | (refine Ext.setRow ?_ (by first | (simp; done) | (simp; omega) | omega) _) | (refine Ext.setCell ?_ (by first | (simp; done) | (simp; omega) | omega) _) | (refine Ext.trans ?_ (by with_reducible assumption)))) hb
      have z4 : w3.heap.size ≤ w4.heap.size := hb0.size
      have x4 : Ext w w4 := Ext.trans x3 hb0
      have u0_4 : w.heap.size < w4.heap.size := hb0.lt u0_3
      have c0_0_4 : w4.cell? ⟨w.heap.size, 0, none⟩ = some (.int .i64 e) := (hb0.cells _ _ u0_3).trans c0_0_3
      have c0_1_4 : w4.cell? ⟨w.heap.size, 1, none⟩ = some (.int .i64 f) := (hb0.cells _ _ u0_3).trans c0_1_3
      have S4 := S3.ext hb0
      clear x3 u0_3 c0_0_3 c0_1_3 S3
      have u1_4 : w3.heap.size < w4.heap.size := hb.lt (by first | (simp; done) | (simp; omega))
      have c1_0_4 : w4.cell? ⟨w3.heap.size, 0, none⟩ = some (.int .i64 R) := (hb.cells _ _ (by first | (simp; done) | (simp; omega))).trans (by first | (simp; done) | (simp [go_sem]; done) | (simp [go_sem, *]; done))
      have c1_1_4 : w4.cell? ⟨w3.heap.size, 1, none⟩ = some (.slice pS m cS) := (hb.cells _ _ (by first | (simp; done) | (simp; omega))).trans (by first | (simp; done) | (simp [go_sem]; done) | (simp [go_sem, *]; done))
      have X4 := row_own r4
      have q4b : w3.heap.size < t4 := by simp at q4; omega
      have q4c := r4.lt
      clear q4
      clear hb hb0
      go_wp2_with fail
      go_at_call 15
      refine (toFormat_any e f _).mono ?_
      rintro rv w5 ⟨rfl, hb⟩
      have hb0 : Ext w4 w5 := Ext.trans (by repeat (first | exact Ext.refl _ | with_reducible assumption | apply Ext.alloc | apply Ext.drew | apply Ext.drewN | (refine Ext.setRow ?_ (by first | (simp; done) | (simp; omega) | omega) _) | (refine Ext.setCell ?_ (by first | (simp; done) | (simp; omega) | omega) _) | (refine Ext.trans ?_ (by with_reducible assumption)))) hb
      have z5 : w4.heap.size ≤ w5.heap.size := hb0.size
      have x5 : Ext w w5 := Ext.trans x4 hb0
      have u0_5 : w.heap.size < w5.heap.size := hb0.lt u0_4
      have c0_0_5 : w5.cell? ⟨w.heap.size, 0, none⟩ = some (.int .i64 e) := (hb0.cells _ _ u0_4).trans c0_0_4
      have c0_1_5 : w5.cell? ⟨w.heap.size, 1, none⟩ = some (.int .i64 f) := (hb0.cells _ _ u0_4).trans c0_1_4
      have u1_5 : w3.heap.size < w5.heap.size := hb0.lt u1_4
      have c1_0_5 : w5.cell? ⟨w3.heap.size, 0, none⟩ = some (.int .i64 R) := (hb0.cells _ _ u1_4).trans c1_0_4
      have c1_1_5 : w5.cell? ⟨w3.heap.size, 1, none⟩ = some (.slice pS m cS) := (hb0.cells _ _ u1_4).trans c1_1_4
      have S5 := S4.ext hb0
      have X5 := X4.ext hb0
      have r5 := row_ext r4 hb0
      clear x4 u0_4 u1_4 c0_0_4 c0_1_4 c1_0_4 c1_1_4 S4 X4 r4
      clear hb hb0
      go_wp2_with fail
      go_at_call 33
      refine (IA.out _ _ (row_ext r5 (by repeat (first | exact Ext.refl _ | with_reducible assumption | apply Ext.alloc | apply Ext.drew | apply Ext.drewN | (refine Ext.setRow ?_ (by first | (simp; done) | (simp; omega) | omega) _) | (refine Ext.setCell ?_ (by first | (simp; done) | (simp; omega) | omega) _) | (refine Ext.trans ?_ (by with_reducible assumption)))))).mono ?_
      rintro rv w6 ⟨pG, cG, rfl, G6, P6, hb⟩
      have hb0 : Ext w5 w6 := Ext.trans (by repeat (first | exact Ext.refl _ | with_reducible assumption | apply Ext.alloc | apply Ext.drew | apply Ext.drewN | (refine Ext.setRow ?_ (by first | (simp; done) | (simp; omega) | omega) _) | (refine Ext.setCell ?_ (by first | (simp; done) | (simp; omega) | omega) _) | (refine Ext.trans ?_ (by with_reducible assumption)))) hb
      have z6 : w5.heap.size ≤ w6.heap.size := hb0.size
      have x6 : Ext w w6 := Ext.trans x5 hb0
      have u0_6 : w.heap.size < w6.heap.size := hb0.lt u0_5
      have c0_0_6 : w6.cell? ⟨w.heap.size, 0, none⟩ = some (.int .i64 e) := (hb0.cells _ _ u0_5).trans c0_0_5
      have c0_1_6 : w6.cell? ⟨w.heap.size, 1, none⟩ = some (.int .i64 f) := (hb0.cells _ _ u0_5).trans c0_1_5
      have u1_6 : w3.heap.size < w6.heap.size := hb0.lt u1_5
      have c1_0_6 : w6.cell? ⟨w3.heap.size, 0, none⟩ = some (.int .i64 R) := (hb0.cells _ _ u1_5).trans c1_0_5
      have c1_1_6 : w6.cell? ⟨w3.heap.size, 1, none⟩ = some (.slice pS m cS) := (hb0.cells _ _ u1_5).trans c1_1_5
      have S6 := S5.ext hb0
      have X6 := X5.ext hb0
      have r6 := row_ext r5 hb0
      clear x5 u0_5 u1_5 c0_0_5 c0_1_5 c1_0_5 c1_1_5 S5 X5 r5
      clear r6
      have KX : 0 < n → ∀ b, (some (⟨t4, 0, none⟩ : Addr)) = some ⟨b, 0, none⟩ → w3.heap.size < b ∧ b < w5.heap.size := fun hn b hb => (by cases hb; omega)
      have PX : Past (some (⟨t4, 0, none⟩ : Addr)) n w.heap.size := fun hn b hb => (by have := KX hn b hb; omega)
      have KG : 0 < m → ∀ b, pG = some (⟨b, 0, none⟩ : Addr) → w3.heap.size < w5.heap.size ∧ w5.heap.size ≤ b ∧ b < w6.heap.size := fun hn b hb => ⟨by omega, P6 hn b hb, G6.lt hn hb⟩
      have PG : Past pG m w.heap.size := P6.le (by omega)
      clear hb hb0
      go_wp2_with fail
      go_at_call 29
      refine (EQM.out _ _ _ _ _ (G6.ext (by repeat (first | exact Ext.refl _ | with_reducible assumption | apply Ext.alloc | apply Ext.drew | apply Ext.drewN | (refine Ext.setRow ?_ (by first | (simp; done) | (simp; omega) | omega) _) | (refine Ext.setCell ?_ (by first | (simp; done) | (simp; omega) | omega) _) | (refine Ext.trans ?_ (by with_reducible assumption))))) (S6.ext (by repeat (first | exact Ext.refl _ | with_reducible assumption | apply Ext.alloc | apply Ext.drew | apply Ext.drewN | (refine Ext.setRow ?_ (by first | (simp; done) | (simp; omega) | omega) _) | (refine Ext.setCell ?_ (by first | (simp; done) | (simp; omega) | omega) _) | (refine Ext.trans ?_ (by with_reducible assumption)))))).mono ?_
      rintro rv w7 ⟨rfl, hb⟩
      have hb0 : Ext w6 w7 := Ext.trans (by repeat (first | exact Ext.refl _ | with_reducible assumption | apply Ext.alloc | apply Ext.drew | apply Ext.drewN | (refine Ext.setRow ?_ (by first | (simp; done) | (simp; omega) | omega) _) | (refine Ext.setCell ?_ (by first | (simp; done) | (simp; omega) | omega) _) | (refine Ext.trans ?_ (by with_reducible assumption)))) hb
      have z7 : w6.heap.size ≤ w7.heap.size := hb0.size
      have x7 : Ext w w7 := Ext.trans x6 hb0
      have u0_7 : w.heap.size < w7.heap.size := hb0.lt u0_6
      have c0_0_7 : w7.cell? ⟨w.heap.size, 0, none⟩ = some (.int .i64 e) := (hb0.cells _ _ u0_6).trans c0_0_6
      have c0_1_7 : w7.cell? ⟨w.heap.size, 1, none⟩ = some (.int .i64 f) := (hb0.cells _ _ u0_6).trans c0_1_6
      have u1_7 : w3.heap.size < w7.heap.size := hb0.lt u1_6
      have c1_0_7 : w7.cell? ⟨w3.heap.size, 0, none⟩ = some (.int .i64 R) := (hb0.cells _ _ u1_6).trans c1_0_6
      have c1_1_7 : w7.cell? ⟨w3.heap.size, 1, none⟩ = some (.slice pS m cS) := (hb0.cells _ _ u1_6).trans c1_1_6
      have S7 := S6.ext hb0
      have X7 := X6.ext hb0
      have G7 := G6.ext hb0
      clear x6 u0_6 u1_6 c0_0_6 c0_1_6 c1_0_6 c1_1_6 S6 X6 G6
      have u2_7 : w6.heap.size < w7.heap.size := hb.lt (by first | (simp; done) | (simp; omega))
      have c2_0_7 : w7.cell? ⟨w6.heap.size, 0, none⟩ = some (.int .i64 R) := (hb.cells _ _ (by first | (simp; done) | (simp; omega))).trans (by first | (simp; done) | (simp [go_sem]; done) | (simp [go_sem, *]; done))
      have c2_1_7 : w7.cell? ⟨w6.heap.size, 1, none⟩ = some (.slice pG m cG) := (hb.cells _ _ (by first | (simp; done) | (simp; omega))).trans (by first | (simp; done) | (simp [go_sem]; done) | (simp [go_sem, *]; done))
      clear hb hb0
      go_wp2_with fail
      go_at_call 16
      refine (toIntS_any p n cap V hn _ (hold.ext (by repeat (first | exact Ext.refl _ | with_reducible assumption | apply Ext.alloc | apply Ext.drew | apply Ext.drewN | (refine Ext.setRow ?_ (by first | (simp; done) | (simp; omega) | omega) _) | (refine Ext.setCell ?_ (by first | (simp; done) | (simp; omega) | omega) _) | (refine Ext.trans ?_ (by with_reducible assumption)))))).mono ?_
      rintro rv w8 ⟨t8, rfl, _, r8, hb⟩
      have hb0 : Ext w7 w8 := Ext.trans (by repeat (first | exact Ext.refl _ | with_reducible assumption | apply Ext.alloc | apply Ext.drew | apply Ext.drewN | (refine Ext.setRow ?_ (by first | (simp; done) | (simp; omega) | omega) _) | (refine Ext.setCell ?_ (by first | (simp; done) | (simp; omega) | omega) _) | (refine Ext.trans ?_ (by with_reducible assumption)))) hb
      have z8 : w7.heap.size ≤ w8.heap.size := hb0.size
      have x8 : Ext w w8 := Ext.trans x7 hb0
      have u0_8 : w.heap.size < w8.heap.size := hb0.lt u0_7
      have c0_0_8 : w8.cell? ⟨w.heap.size, 0, none⟩ = some (.int .i64 e) := (hb0.cells _ _ u0_7).trans c0_0_7
      have c0_1_8 : w8.cell? ⟨w.heap.size, 1, none⟩ = some (.int .i64 f) := (hb0.cells _ _ u0_7).trans c0_1_7
      have u1_8 : w3.heap.size < w8.heap.size := hb0.lt u1_7
      have c1_0_8 : w8.cell? ⟨w3.heap.size, 0, none⟩ = some (.int .i64 R) := (hb0.cells _ _ u1_7).trans c1_0_7
      have c1_1_8 : w8.cell? ⟨w3.heap.size, 1, none⟩ = some (.slice pS m cS) := (hb0.cells _ _ u1_7).trans c1_1_7
      have u2_8 : w6.heap.size < w8.heap.size := hb0.lt u2_7
      have c2_0_8 : w8.cell? ⟨w6.heap.size, 0, none⟩ = some (.int .i64 R) := (hb0.cells _ _ u2_7).trans c2_0_7
      have c2_1_8 : w8.cell? ⟨w6.heap.size, 1, none⟩ = some (.slice pG m cG) := (hb0.cells _ _ u2_7).trans c2_1_7
      have S8 := S7.ext hb0
      have X8 := X7.ext hb0
      have G8 := G7.ext hb0
      clear x7 u0_7 u1_7 u2_7 c0_0_7 c0_1_7 c1_0_7 c1_1_7 c2_0_7 c2_1_7 S7 X7 G7
      clear hb hb0
      go_wp2_with fail
      go_at_call 18
      refine (EQN.out _ _ _ _ _ (X8.ext (by repeat (first | exact Ext.refl _ | with_reducible assumption | apply Ext.alloc | apply Ext.drew | apply Ext.drewN | (refine Ext.setRow ?_ (by first | (simp; done) | (simp; omega) | omega) _) | (refine Ext.setCell ?_ (by first | (simp; done) | (simp; omega) | omega) _) | (refine Ext.trans ?_ (by with_reducible assumption))))) ((row_own r8).ext (by repeat (first | exact Ext.refl _ | with_reducible assumption | apply Ext.alloc | apply Ext.drew | apply Ext.drewN | (refine Ext.setRow ?_ (by first | (simp; done) | (simp; omega) | omega) _) | (refine Ext.setCell ?_ (by first | (simp; done) | (simp; omega) | omega) _) | (refine Ext.trans ?_ (by with_reducible assumption)))))).mono ?_
      rintro rv w9 ⟨rfl, hb⟩
      have hb0 : Ext w8 w9 := Ext.trans (by repeat (first | exact Ext.refl _ | with_reducible assumption | apply Ext.alloc | apply Ext.drew | apply Ext.drewN | (refine Ext.setRow ?_ (by first | (simp; done) | (simp; omega) | omega) _) | (refine Ext.setCell ?_ (by first | (simp; done) | (simp; omega) | omega) _) | (refine Ext.trans ?_ (by with_reducible assumption)))) hb
      have z9 : w8.heap.size ≤ w9.heap.size := hb0.size
      have x9 : Ext w w9 := Ext.trans x8 hb0
      have u0_9 : w.heap.size < w9.heap.size := hb0.lt u0_8
      have c0_0_9 : w9.cell? ⟨w.heap.size, 0, none⟩ = some (.int .i64 e) := (hb0.cells _ _ u0_8).trans c0_0_8
      have c0_1_9 : w9.cell? ⟨w.heap.size, 1, none⟩ = some (.int .i64 f) := (hb0.cells _ _ u0_8).trans c0_1_8
      have u1_9 : w3.heap.size < w9.heap.size := hb0.lt u1_8
      have c1_0_9 : w9.cell? ⟨w3.heap.size, 0, none⟩ = some (.int .i64 R) := (hb0.cells _ _ u1_8).trans c1_0_8
      have c1_1_9 : w9.cell? ⟨w3.heap.size, 1, none⟩ = some (.slice pS m cS) := (hb0.cells _ _ u1_8).trans c1_1_8
      have u2_9 : w6.heap.size < w9.heap.size := hb0.lt u2_8
      have c2_0_9 : w9.cell? ⟨w6.heap.size, 0, none⟩ = some (.int .i64 R) := (hb0.cells _ _ u2_8).trans c2_0_8
      have c2_1_9 : w9.cell? ⟨w6.heap.size, 1, none⟩ = some (.slice pG m cG) := (hb0.cells _ _ u2_8).trans c2_1_8
      have S9 := S8.ext hb0
      have X9 := X8.ext hb0
      have G9 := G8.ext hb0
      have r9 := row_ext r8 hb0
      clear x8 u0_8 u1_8 u2_8 c0_0_8 c0_1_8 c1_0_8 c1_1_8 c2_0_8 c2_1_8 S8 X8 G8 r8
      clear r9
      clear hb hb0
      go_wp2_with fail
      go_at_call 19
      refine (MKN.out _ _ _ X9).mono ?_
      rintro rv w10 ⟨rfl, hm0⟩
      have hm := hm0.toB
      clear hm0
      have z10 : w9.heap.size ≤ w10.heap.size := hm.size
      have x10 : Ext w w10 := markB_ext x9 hm PX
      have u0_10 : w.heap.size < w10.heap.size := by omega
      have f0_10 : w10.heap[w.heap.size]? = w9.heap[w.heap.size]? := hm.far _ u0_9 (fun hn b hb2 => by have hbb := KX hn b hb2; omega)
      have c0_0_10 : w10.cell? ⟨w.heap.size, 0, none⟩ = some (.int .i64 e) := (World.cell?_of_block f0_10).trans c0_0_9
      have c0_1_10 : w10.cell? ⟨w.heap.size, 1, none⟩ = some (.int .i64 f) := (World.cell?_of_block f0_10).trans c0_1_9
      have u1_10 : w3.heap.size < w10.heap.size := by omega
      have f1_10 : w10.heap[w3.heap.size]? = w9.heap[w3.heap.size]? := hm.far _ u1_9 (fun hn b hb2 => by have hbb := KX hn b hb2; omega)
      have c1_0_10 : w10.cell? ⟨w3.heap.size, 0, none⟩ = some (.int .i64 R) := (World.cell?_of_block f1_10).trans c1_0_9
      have c1_1_10 : w10.cell? ⟨w3.heap.size, 1, none⟩ = some (.slice pS m cS) := (World.cell?_of_block f1_10).trans c1_1_9
      have u2_10 : w6.heap.size < w10.heap.size := by omega
      have f2_10 : w10.heap[w6.heap.size]? = w9.heap[w6.heap.size]? := hm.far _ u2_9 (fun hn b hb2 => by have hbb := KX hn b hb2; omega)
      have c2_0_10 : w10.cell? ⟨w6.heap.size, 0, none⟩ = some (.int .i64 R) := (World.cell?_of_block f2_10).trans c2_0_9
      have c2_1_10 : w10.cell? ⟨w6.heap.size, 1, none⟩ = some (.slice pG m cG) := (World.cell?_of_block f2_10).trans c2_1_9
      have S10 := S9.block (fun hn b hb2 => hm.far _ (S9.lt hn hb2) (fun hn2 b2 hb3 => by have hbb := KX hn2 b2 hb3; have hbc := KS hn b hb2; omega))
      have G10 := G9.block (fun hn b hb2 => hm.far _ (G9.lt hn hb2) (fun hn2 b2 hb3 => by have hbb := KX hn2 b2 hb3; have hbc := KG hn b hb2; omega))
      clear hm x9 u0_9 u1_9 u2_9 f0_10 f1_10 f2_10 c0_0_9 c0_1_9 c1_0_9 c1_1_9 c2_0_9 c2_1_9 S9 X9 G9
      go_wp2_with fail
      go_at_call 29
      refine (EQM.out _ _ _ _ _ (G10.ext (by repeat (first | exact Ext.refl _ | with_reducible assumption | apply Ext.alloc | apply Ext.drew | apply Ext.drewN | (refine Ext.setRow ?_ (by first | (simp; done) | (simp; omega) | omega) _) | (refine Ext.setCell ?_ (by first | (simp; done) | (simp; omega) | omega) _) | (refine Ext.trans ?_ (by with_reducible assumption))))) (S10.ext (by repeat (first | exact Ext.refl _ | with_reducible assumption | apply Ext.alloc | apply Ext.drew | apply Ext.drewN | (refine Ext.setRow ?_ (by first | (simp; done) | (simp; omega) | omega) _) | (refine Ext.setCell ?_ (by first | (simp; done) | (simp; omega) | omega) _) | (refine Ext.trans ?_ (by with_reducible assumption)))))).mono ?_
      rintro rv w11 ⟨rfl, hb⟩
      have hb0 : Ext w10 w11 := Ext.trans (by repeat (first | exact Ext.refl _ | with_reducible assumption | apply Ext.alloc | apply Ext.drew | apply Ext.drewN | (refine Ext.setRow ?_ (by first | (simp; done) | (simp; omega) | omega) _) | (refine Ext.setCell ?_ (by first | (simp; done) | (simp; omega) | omega) _) | (refine Ext.trans ?_ (by with_reducible assumption)))) hb
      have z11 : w10.heap.size ≤ w11.heap.size := hb0.size
      have x11 : Ext w w11 := Ext.trans x10 hb0
      have u0_11 : w.heap.size < w11.heap.size := hb0.lt u0_10
      have c0_0_11 : w11.cell? ⟨w.heap.size, 0, none⟩ = some (.int .i64 e) := (hb0.cells _ _ u0_10).trans c0_0_10
      have c0_1_11 : w11.cell? ⟨w.heap.size, 1, none⟩ = some (.int .i64 f) := (hb0.cells _ _ u0_10).trans c0_1_10
      have u1_11 : w3.heap.size < w11.heap.size := hb0.lt u1_10
      have c1_0_11 : w11.cell? ⟨w3.heap.size, 0, none⟩ = some (.int .i64 R) := (hb0.cells _ _ u1_10).trans c1_0_10
      have c1_1_11 : w11.cell? ⟨w3.heap.size, 1, none⟩ = some (.slice pS m cS) := (hb0.cells _ _ u1_10).trans c1_1_10
      have u2_11 : w6.heap.size < w11.heap.size := hb0.lt u2_10
      have c2_0_11 : w11.cell? ⟨w6.heap.size, 0, none⟩ = some (.int .i64 R) := (hb0.cells _ _ u2_10).trans c2_0_10
      have c2_1_11 : w11.cell? ⟨w6.heap.size, 1, none⟩ = some (.slice pG m cG) := (hb0.cells _ _ u2_10).trans c2_1_10
      have S11 := S10.ext hb0
      have G11 := G10.ext hb0
      clear x10 u0_10 u1_10 u2_10 c0_0_10 c0_1_10 c1_0_10 c1_1_10 c2_0_10 c2_1_10 S10 G10
      clear hb hb0
      go_wp2_with fail
      go_at_call 34
      refine (MKM.out _ _ _ G11).mono ?_
      rintro rv w12 ⟨rfl, hm0⟩
      have hm := hm0
      clear hm0
      have z12 : w11.heap.size ≤ w12.heap.size := hm.size
      have x12 : Ext w w12 := markB_ext x11 hm PG
      have u0_12 : w.heap.size < w12.heap.size := by omega
      have f0_12 : w12.heap[w.heap.size]? = w11.heap[w.heap.size]? := hm.far _ u0_11 (fun hn b hb2 => by have hbb := KG hn b hb2; omega)
      have c0_0_12 : w12.cell? ⟨w.heap.size, 0, none⟩ = some (.int .i64 e) := (World.cell?_of_block f0_12).trans c0_0_11
      have c0_1_12 : w12.cell? ⟨w.heap.size, 1, none⟩ = some (.int .i64 f) := (World.cell?_of_block f0_12).trans c0_1_11
      have u1_12 : w3.heap.size < w12.heap.size := by omega
      have f1_12 : w12.heap[w3.heap.size]? = w11.heap[w3.heap.size]? := hm.far _ u1_11 (fun hn b hb2 => by have hbb := KG hn b hb2; omega)
      have c1_0_12 : w12.cell? ⟨w3.heap.size, 0, none⟩ = some (.int .i64 R) := (World.cell?_of_block f1_12).trans c1_0_11
      have c1_1_12 : w12.cell? ⟨w3.heap.size, 1, none⟩ = some (.slice pS m cS) := (World.cell?_of_block f1_12).trans c1_1_11
      have u2_12 : w6.heap.size < w12.heap.size := by omega
      have f2_12 : w12.heap[w6.heap.size]? = w11.heap[w6.heap.size]? := hm.far _ u2_11 (fun hn b hb2 => by have hbb := KG hn b hb2; omega)
      have c2_0_12 : w12.cell? ⟨w6.heap.size, 0, none⟩ = some (.int .i64 R) := (World.cell?_of_block f2_12).trans c2_0_11
      have c2_1_12 : w12.cell? ⟨w6.heap.size, 1, none⟩ = some (.slice pG m cG) := (World.cell?_of_block f2_12).trans c2_1_11
      have S12 := S11.block (fun hn b hb2 => hm.far _ (S11.lt hn hb2) (fun hn2 b2 hb3 => by have hbb := KG hn2 b2 hb3; have hbc := KS hn b hb2; omega))
      have G12 := hm.row
      clear hm x11 u0_11 u1_11 u2_11 f0_12 f1_12 f2_12 c0_0_11 c0_1_11 c1_0_11 c1_1_11 c2_0_11 c2_1_11 S11 G11
      go_wp2_with fail
      go_at_call 35
      refine (HLM.out _ _ _ (G12.ext (by repeat (first | exact Ext.refl _ | with_reducible assumption | apply Ext.alloc | apply Ext.drew | apply Ext.drewN | (refine Ext.setRow ?_ (by first | (simp; done) | (simp; omega) | omega) _) | (refine Ext.setCell ?_ (by first | (simp; done) | (simp; omega) | omega) _) | (refine Ext.trans ?_ (by with_reducible assumption)))))).mono ?_
      rintro rv w13 ⟨rfl, hb⟩
      have hb0 : Ext w12 w13 := Ext.trans (by repeat (first | exact Ext.refl _ | with_reducible assumption | apply Ext.alloc | apply Ext.drew | apply Ext.drewN | (refine Ext.setRow ?_ (by first | (simp; done) | (simp; omega) | omega) _) | (refine Ext.setCell ?_ (by first | (simp; done) | (simp; omega) | omega) _) | (refine Ext.trans ?_ (by with_reducible assumption)))) hb
      have z13 : w12.heap.size ≤ w13.heap.size := hb0.size
      have x13 : Ext w w13 := Ext.trans x12 hb0
      have u0_13 : w.heap.size < w13.heap.size := hb0.lt u0_12
      have c0_0_13 : w13.cell? ⟨w.heap.size, 0, none⟩ = some (.int .i64 e) := (hb0.cells _ _ u0_12).trans c0_0_12
      have c0_1_13 : w13.cell? ⟨w.heap.size, 1, none⟩ = some (.int .i64 f) := (hb0.cells _ _ u0_12).trans c0_1_12
      have u1_13 : w3.heap.size < w13.heap.size := hb0.lt u1_12
      have c1_0_13 : w13.cell? ⟨w3.heap.size, 0, none⟩ = some (.int .i64 R) := (hb0.cells _ _ u1_12).trans c1_0_12
      have c1_1_13 : w13.cell? ⟨w3.heap.size, 1, none⟩ = some (.slice pS m cS) := (hb0.cells _ _ u1_12).trans c1_1_12
      have u2_13 : w6.heap.size < w13.heap.size := hb0.lt u2_12
      have c2_0_13 : w13.cell? ⟨w6.heap.size, 0, none⟩ = some (.int .i64 R) := (hb0.cells _ _ u2_12).trans c2_0_12
      have c2_1_13 : w13.cell? ⟨w6.heap.size, 1, none⟩ = some (.slice pG m cG) := (hb0.cells _ _ u2_12).trans c2_1_12
      have S13 := S12.ext hb0
      have G13 := G12.ext hb0
      clear x12 u0_12 u1_12 u2_12 c0_0_12 c0_1_12 c1_0_12 c1_1_12 c2_0_12 c2_1_12 S12 G12
      clear hb hb0
      go_wp2_with fail
      go_at_call 15
      refine (toFormat_any e f _).mono ?_
      rintro rv w14 ⟨rfl, hb⟩
      have hb0 : Ext w13 w14 := Ext.trans (by repeat (first | exact Ext.refl _ | with_reducible assumption | apply Ext.alloc | apply Ext.drew | apply Ext.drewN | (refine Ext.setRow ?_ (by first | (simp; done) | (simp; omega) | omega) _) | (refine Ext.setCell ?_ (by first | (simp; done) | (simp; omega) | omega) _) | (refine Ext.trans ?_ (by with_reducible assumption)))) hb
      have z14 : w13.heap.size ≤ w14.heap.size := hb0.size
      have x14 : Ext w w14 := Ext.trans x13 hb0
      have u0_14 : w.heap.size < w14.heap.size := hb0.lt u0_13
      have c0_0_14 : w14.cell? ⟨w.heap.size, 0, none⟩ = some (.int .i64 e) := (hb0.cells _ _ u0_13).trans c0_0_13
      have c0_1_14 : w14.cell? ⟨w.heap.size, 1, none⟩ = some (.int .i64 f) := (hb0.cells _ _ u0_13).trans c0_1_13
      have u1_14 : w3.heap.size < w14.heap.size := hb0.lt u1_13
      have c1_0_14 : w14.cell? ⟨w3.heap.size, 0, none⟩ = some (.int .i64 R) := (hb0.cells _ _ u1_13).trans c1_0_13
      have c1_1_14 : w14.cell? ⟨w3.heap.size, 1, none⟩ = some (.slice pS m cS) := (hb0.cells _ _ u1_13).trans c1_1_13
      have u2_14 : w6.heap.size < w14.heap.size := hb0.lt u2_13
      have c2_0_14 : w14.cell? ⟨w6.heap.size, 0, none⟩ = some (.int .i64 R) := (hb0.cells _ _ u2_13).trans c2_0_13
      have c2_1_14 : w14.cell? ⟨w6.heap.size, 1, none⟩ = some (.slice pG m cG) := (hb0.cells _ _ u2_13).trans c2_1_13
      have S14 := S13.ext hb0
      have G14 := G13.ext hb0
      clear x13 u0_13 u1_13 u2_13 c0_0_13 c0_1_13 c1_0_13 c1_1_13 c2_0_13 c2_1_13 S13 G13
      clear hb hb0
      go_wp2_with fail
      go_at_call 16
      refine (toIntS_any p n cap V hn _ (hold.ext (by repeat (first | exact Ext.refl _ | with_reducible assumption | apply Ext.alloc | apply Ext.drew | apply Ext.drewN | (refine Ext.setRow ?_ (by first | (simp; done) | (simp; omega) | omega) _) | (refine Ext.setCell ?_ (by first | (simp; done) | (simp; omega) | omega) _) | (refine Ext.trans ?_ (by with_reducible assumption)))))).mono ?_
      rintro rv w15 ⟨t15, rfl, _, r15, hb⟩
      have hb0 : Ext w14 w15 := Ext.trans (by repeat (first | exact Ext.refl _ | with_reducible assumption | apply Ext.alloc | apply Ext.drew | apply Ext.drewN | (refine Ext.setRow ?_ (by first | (simp; done) | (simp; omega) | omega) _) | (refine Ext.setCell ?_ (by first | (simp; done) | (simp; omega) | omega) _) | (refine Ext.trans ?_ (by with_reducible assumption)))) hb
      have z15 : w14.heap.size ≤ w15.heap.size := hb0.size
      have x15 : Ext w w15 := Ext.trans x14 hb0
      have u0_15 : w.heap.size < w15.heap.size := hb0.lt u0_14
      have c0_0_15 : w15.cell? ⟨w.heap.size, 0, none⟩ = some (.int .i64 e) := (hb0.cells _ _ u0_14).trans c0_0_14
      have c0_1_15 : w15.cell? ⟨w.heap.size, 1, none⟩ = some (.int .i64 f) := (hb0.cells _ _ u0_14).trans c0_1_14
      have u1_15 : w3.heap.size < w15.heap.size := hb0.lt u1_14
      have c1_0_15 : w15.cell? ⟨w3.heap.size, 0, none⟩ = some (.int .i64 R) := (hb0.cells _ _ u1_14).trans c1_0_14
      have c1_1_15 : w15.cell? ⟨w3.heap.size, 1, none⟩ = some (.slice pS m cS) := (hb0.cells _ _ u1_14).trans c1_1_14
      have u2_15 : w6.heap.size < w15.heap.size := hb0.lt u2_14
      have c2_0_15 : w15.cell? ⟨w6.heap.size, 0, none⟩ = some (.int .i64 R) := (hb0.cells _ _ u2_14).trans c2_0_14
      have c2_1_15 : w15.cell? ⟨w6.heap.size, 1, none⟩ = some (.slice pG m cG) := (hb0.cells _ _ u2_14).trans c2_1_14
      have S15 := S14.ext hb0
      have G15 := G14.ext hb0
      clear x14 u0_14 u1_14 u2_14 c0_0_14 c0_1_14 c1_0_14 c1_1_14 c2_0_14 c2_1_14 S14 G14
      clear hb hb0
      go_wp2_with fail
      go_at_call 33
      refine (IA.out _ _ (row_ext r15 (by repeat (first | exact Ext.refl _ | with_reducible assumption | apply Ext.alloc | apply Ext.drew | apply Ext.drewN | (refine Ext.setRow ?_ (by first | (simp; done) | (simp; omega) | omega) _) | (refine Ext.setCell ?_ (by first | (simp; done) | (simp; omega) | omega) _) | (refine Ext.trans ?_ (by with_reducible assumption)))))).mono ?_
      rintro rv w16 ⟨pH, cH, rfl, H16, _, hb⟩
      have hb0 : Ext w15 w16 := Ext.trans (by repeat (first | exact Ext.refl _ | with_reducible assumption | apply Ext.alloc | apply Ext.drew | apply Ext.drewN | (refine Ext.setRow ?_ (by first | (simp; done) | (simp; omega) | omega) _) | (refine Ext.setCell ?_ (by first | (simp; done) | (simp; omega) | omega) _) | (refine Ext.trans ?_ (by with_reducible assumption)))) hb
      have z16 : w15.heap.size ≤ w16.heap.size := hb0.size
      have x16 : Ext w w16 := Ext.trans x15 hb0
      have u0_16 : w.heap.size < w16.heap.size := hb0.lt u0_15
      have c0_0_16 : w16.cell? ⟨w.heap.size, 0, none⟩ = some (.int .i64 e) := (hb0.cells _ _ u0_15).trans c0_0_15
      have c0_1_16 : w16.cell? ⟨w.heap.size, 1, none⟩ = some (.int .i64 f) := (hb0.cells _ _ u0_15).trans c0_1_15
      have u1_16 : w3.heap.size < w16.heap.size := hb0.lt u1_15
      have c1_0_16 : w16.cell? ⟨w3.heap.size, 0, none⟩ = some (.int .i64 R) := (hb0.cells _ _ u1_15).trans c1_0_15
      have c1_1_16 : w16.cell? ⟨w3.heap.size, 1, none⟩ = some (.slice pS m cS) := (hb0.cells _ _ u1_15).trans c1_1_15
      have u2_16 : w6.heap.size < w16.heap.size := hb0.lt u2_15
      have c2_0_16 : w16.cell? ⟨w6.heap.size, 0, none⟩ = some (.int .i64 R) := (hb0.cells _ _ u2_15).trans c2_0_15
      have c2_1_16 : w16.cell? ⟨w6.heap.size, 1, none⟩ = some (.slice pG m cG) := (hb0.cells _ _ u2_15).trans c2_1_15
      have S16 := S15.ext hb0
      have G16 := G15.ext hb0
      have r16 := row_ext r15 hb0
      clear x15 u0_15 u1_15 u2_15 c0_0_15 c0_1_15 c1_0_15 c1_1_15 c2_0_15 c2_1_15 S15 G15 r15
      clear r16
      clear hb hb0
      go_wp2_with fail
      go_at_call 29
      refine (EQM.out _ _ _ _ _ (H16.ext (by repeat (first | exact Ext.refl _ | with_reducible assumption | apply Ext.alloc | apply Ext.drew | apply Ext.drewN | (refine Ext.setRow ?_ (by first | (simp; done) | (simp; omega) | omega) _) | (refine Ext.setCell ?_ (by first | (simp; done) | (simp; omega) | omega) _) | (refine Ext.trans ?_ (by with_reducible assumption))))) (S16.ext (by repeat (first | exact Ext.refl _ | with_reducible assumption | apply Ext.alloc | apply Ext.drew | apply Ext.drewN | (refine Ext.setRow ?_ (by first | (simp; done) | (simp; omega) | omega) _) | (refine Ext.setCell ?_ (by first | (simp; done) | (simp; omega) | omega) _) | (refine Ext.trans ?_ (by with_reducible assumption)))))).mono ?_
      rintro rv w17 ⟨rfl, hb⟩
      have hb0 : Ext w16 w17 := Ext.trans (by repeat (first | exact Ext.refl _ | with_reducible assumption | apply Ext.alloc | apply Ext.drew | apply Ext.drewN | (refine Ext.setRow ?_ (by first | (simp; done) | (simp; omega) | omega) _) | (refine Ext.setCell ?_ (by first | (simp; done) | (simp; omega) | omega) _) | (refine Ext.trans ?_ (by with_reducible assumption)))) hb
      have z17 : w16.heap.size ≤ w17.heap.size := hb0.size
      have x17 : Ext w w17 := Ext.trans x16 hb0
      have u0_17 : w.heap.size < w17.heap.size := hb0.lt u0_16
      have c0_0_17 : w17.cell? ⟨w.heap.size, 0, none⟩ = some (.int .i64 e) := (hb0.cells _ _ u0_16).trans c0_0_16
      have c0_1_17 : w17.cell? ⟨w.heap.size, 1, none⟩ = some (.int .i64 f) := (hb0.cells _ _ u0_16).trans c0_1_16
      have u1_17 : w3.heap.size < w17.heap.size := hb0.lt u1_16
      have c1_0_17 : w17.cell? ⟨w3.heap.size, 0, none⟩ = some (.int .i64 R) := (hb0.cells _ _ u1_16).trans c1_0_16
      have c1_1_17 : w17.cell? ⟨w3.heap.size, 1, none⟩ = some (.slice pS m cS) := (hb0.cells _ _ u1_16).trans c1_1_16
      have u2_17 : w6.heap.size < w17.heap.size := hb0.lt u2_16
      have c2_0_17 : w17.cell? ⟨w6.heap.size, 0, none⟩ = some (.int .i64 R) := (hb0.cells _ _ u2_16).trans c2_0_16
      have c2_1_17 : w17.cell? ⟨w6.heap.size, 1, none⟩ = some (.slice pG m cG) := (hb0.cells _ _ u2_16).trans c2_1_16
      have S17 := S16.ext hb0
      have G17 := G16.ext hb0
      have H17 := H16.ext hb0
      clear x16 u0_16 u1_16 u2_16 c0_0_16 c0_1_16 c1_0_16 c1_1_16 c2_0_16 c2_1_16 S16 G16 H16
      have u3_17 : w16.heap.size < w17.heap.size := hb.lt (by first | (simp; done) | (simp; omega))
      have c3_0_17 : w17.cell? ⟨w16.heap.size, 0, none⟩ = some (.int .i64 R) := (hb.cells _ _ (by first | (simp; done) | (simp; omega))).trans (by first | (simp; done) | (simp [go_sem]; done) | (simp [go_sem, *]; done))
      have c3_1_17 : w17.cell? ⟨w16.heap.size, 1, none⟩ = some (.slice pH m cH) := (hb.cells _ _ (by first | (simp; done) | (simp; omega))).trans (by first | (simp; done) | (simp [go_sem]; done) | (simp [go_sem, *]; done))
      clear hb hb0
      go_wp2_with fail
      go_at_call 35
      refine (HLM.out _ _ _ (G17.ext (by repeat (first | exact Ext.refl _ | with_reducible assumption | apply Ext.alloc | apply Ext.drew | apply Ext.drewN | (refine Ext.setRow ?_ (by first | (simp; done) | (simp; omega) | omega) _) | (refine Ext.setCell ?_ (by first | (simp; done) | (simp; omega) | omega) _) | (refine Ext.trans ?_ (by with_reducible assumption)))))).mono ?_
      rintro rv w18 ⟨rfl, hb⟩
      have hb0 : Ext w17 w18 := Ext.trans (by repeat (first | exact Ext.refl _ | with_reducible assumption | apply Ext.alloc | apply Ext.drew | apply Ext.drewN | (refine Ext.setRow ?_ (by first | (simp; done) | (simp; omega) | omega) _) | (refine Ext.setCell ?_ (by first | (simp; done) | (simp; omega) | omega) _) | (refine Ext.trans ?_ (by with_reducible assumption)))) hb
      have z18 : w17.heap.size ≤ w18.heap.size := hb0.size
      have x18 : Ext w w18 := Ext.trans x17 hb0
      have u0_18 : w.heap.size < w18.heap.size := hb0.lt u0_17
      have c0_0_18 : w18.cell? ⟨w.heap.size, 0, none⟩ = some (.int .i64 e) := (hb0.cells _ _ u0_17).trans c0_0_17
      have c0_1_18 : w18.cell? ⟨w.heap.size, 1, none⟩ = some (.int .i64 f) := (hb0.cells _ _ u0_17).trans c0_1_17
      have u1_18 : w3.heap.size < w18.heap.size := hb0.lt u1_17
      have c1_0_18 : w18.cell? ⟨w3.heap.size, 0, none⟩ = some (.int .i64 R) := (hb0.cells _ _ u1_17).trans c1_0_17
      have c1_1_18 : w18.cell? ⟨w3.heap.size, 1, none⟩ = some (.slice pS m cS) := (hb0.cells _ _ u1_17).trans c1_1_17
      have u2_18 : w6.heap.size < w18.heap.size := hb0.lt u2_17
      have c2_0_18 : w18.cell? ⟨w6.heap.size, 0, none⟩ = some (.int .i64 R) := (hb0.cells _ _ u2_17).trans c2_0_17
      have c2_1_18 : w18.cell? ⟨w6.heap.size, 1, none⟩ = some (.slice pG m cG) := (hb0.cells _ _ u2_17).trans c2_1_17
      have u3_18 : w16.heap.size < w18.heap.size := hb0.lt u3_17
      have c3_0_18 : w18.cell? ⟨w16.heap.size, 0, none⟩ = some (.int .i64 R) := (hb0.cells _ _ u3_17).trans c3_0_17
      have c3_1_18 : w18.cell? ⟨w16.heap.size, 1, none⟩ = some (.slice pH m cH) := (hb0.cells _ _ u3_17).trans c3_1_17
      have S18 := S17.ext hb0
      have G18 := G17.ext hb0
      have H18 := H17.ext hb0
      clear x17 u0_17 u1_17 u2_17 u3_17 c0_0_17 c0_1_17 c1_0_17 c1_1_17 c2_0_17 c2_1_17 c3_0_17 c3_1_17 S17 G17 H17
      clear hb hb0
      go_wp2_with fail
      go_ret
      exact ⟨rfl, x18⟩

  · have h12 : (1048576 : Int) < (n : Int) := by omega
    go_enter Try.func8, Try.ntmps8
    go_wp2_with fail
    go_ret
    exact ⟨rfl, (by repeat (first | exact Ext.refl _ | with_reducible assumption | apply Ext.alloc | apply Ext.drew | apply Ext.drewN | (refine Ext.setRow ?_ (by first | (simp; done) | (simp; omega) | omega) _) | (refine Ext.setCell ?_ (by first | (simp; done) | (simp; omega) | omega) _) | (refine Ext.trans ?_ (by with_reducible assumption))))⟩
end Go.Proofs.Ytdagfocpbnamfaa

