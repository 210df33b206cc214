/-
  Contracts of the functions that the laws reach, and the plain facts that they rest on, each under the conditions that its line names; part 38.
-/
import Derived.Test.YtfgbndjhaiigbaaGreatDoorKdj1
import Derived.Test.YtfgbndjhaiigbaaGreatDoorKdj2
import Derived.Test.YtfgbndjhaiigbaaGreatDoorKdj3
import Derived.Test.YtfgbndjhaiigbaaGreatDoorKdj4
import Derived.Test.YtfgbndjhaiigbaaGreatDoorKdj5
import Derived.Test.YtfgbndjhaiigbaaGreatDoorKdj14
import Derived.Test.YtfgbndjhaiigbaaGreatDoorKdj31
import Derived.Test.YtfgbndjhaiigbaaGreatDoorKdj32
import Derived.Test.YtfgbndjhaiigbaaGreatDoorKdj37
import Derived.Test.YtfgbndjhaiigbaaGreatDoorRows
import Derived.WalkKit
import Derived.LoopTactic
import Derived.Laws.Bits64b
import Derived.WalkSpells
import Derived.WalkLawsBesides
import Derived.StillTactics
import Derived.Laws.Pointers
import Derived.Deep.RegionHeld3
import Derived.Deep.QuietTactic
import Derived.BigQuiet
import Derived.Outline
import Derived.Lib.Hide
import Derived.RowKit3
import Derived.Carry
import Derived.IntWalk
import Derived.LoopN
import Derived.Maps.RangeWalk
import Derived.Maps.OwnSet
import Derived.DeepKeys4
namespace Go.Proofs.YtfgbndjhaiigbaaGreatDoor
open Go Go.RowKit Go.Maps
set_option linter.unusedSimpArgs false
set_option linter.unusedVariables false
set_option maxRecDepth 100000

section

variable {ops : Array Oper} {rest : List Oper} {o : Oper} {a : Act} {Q : Exit → Act → World → Prop}

theorem wpList_iv_range2 (w : World) (hg : o.guard = Option.none) (m : Operand) (hop : o.op = Op.range 125 m) (b n : Nat) (E : Int → Int → Bool) (hm : a.eval m = .map (some b)) (hown : IvS w b n E) (r : Nat) (hr : w.heap.size = r)
    (hK : ∀ w', IvR w' b r n E E (w'.rangeLeft b r) → Ext w w' → w'.heap.size = r + 1 → wpList Tryz.prog ops Q rest (a.put o.dst (.pointer (some ⟨r, 0, Option.none⟩))) w') : wpList Tryz.prog ops Q (o :: rest) a w := by
  subst hr
  exact wpList_iv_range w hg m hop b n E hm hown hK

end

theorem gr_cell {w w' : World} {r k : Nat} (hg : w.grownBy w' (some r)) (hk : k < w.heap.size) (hne : k ≠ r) (o : Nat) : w'.cell? ⟨k, o, none⟩ = w.cell? ⟨k, o, none⟩ :=
  World.cell?_of_block (w := w) (w' := w') (hg.block k hk (by simpa using hne))

theorem gr_frz {w w' : World} {r k : Nat} (hg : w.grownBy w' (some r)) (hk : k < w.heap.size) (hne : k ≠ r) (o : Nat) : w'.frozen? ⟨k, o, none⟩ = w.frozen? ⟨k, o, none⟩ :=
  World.frozen?_of_block (w := w) (w' := w') (hg.block k hk (by simpa using hne))

theorem IvS.block {w w' : World} {b n : Nat} {E : Int → Int → Bool} (h : IvS w b n E) (h1 : w'.heap[b]? = w.heap[b]?) : IvS w' b n E := by
  obtain ⟨D, ⟨es, clock, hb, r⟩, k⟩ := h
  exact ⟨D, ⟨es, clock, h1.trans hb, r⟩, k⟩

theorem IvR.block {w w' : World} {b r n cnt : Nat} {E L : Int → Int → Bool} (h : IvR w b r n E L cnt) (h1 : w'.heap[b]? = w.heap[b]?) (h2 : w'.heap[r]? = w.heap[r]?) : IvR w' b r n E L cnt := by
  obtain ⟨D, left, ⟨es, clock, since, seen, c0, hb, F, hs, hD, hr, q⟩, k⟩ := h
  exact ⟨D, left, ⟨es, clock, since, seen, c0, h1.trans hb, F, hs, hD, h2.trans hr, q⟩, k⟩

theorem IvR.setCell {w : World} {b r n cnt : Nat} {E L : Int → Int → Bool} (h : IvR w b r n E L cnt) {a : Addr} (v : Value) (h1 : b ≠ a.block) (h2 : r ≠ a.block) : IvR (w.setCell a v) b r n E L cnt :=
  h.block (Below.heap_setCell _ _ _ _ h1) (Below.heap_setCell _ _ _ _ h2)

theorem IvR.alloc {w : World} {b r n cnt : Nat} {E L : Int → Int → Bool} (h : IvR w b r n E L cnt) (o : Obj) : IvR (w.alloc o) b r n E L cnt := h.ext (Ext.new _ _)

theorem gr_ext {w w1 w2 : World} {r : Nat} (hx : Ext w w1) (hg : w1.grownBy w2 (some r)) (hr : w.heap.size ≤ r) : Ext w w2 :=
  Below.grown hx hg hx.size (fun k hk => by cases hk; exact hr)

set_option maxHeartbeats 3200000 in
theorem left_one (b n : Nat) (E : Int → Int → Bool) (l0 h0 : Int) (hw0 : wf2 l0 h0) (h1 : ∀ l h, wf2 l h → (E l h = true ↔ l = l0 ∧ h = h0)) (w : World) (hS : IvS w b n E) : Calls Tryz.prog 140 #[.map (some b)] w fun rv w' => rv = .returned (.tuple #[two l0 h0, .bool true]) ∧ Ext w w' := by
  have hbl := hS.lt
  have H1 := Lib.hid h1
  clear h1
  go_enter Tryz.func140, Tryz.ntmps140
  go_wp2_with (first | (at_range; refine wpList_iv_range2 _ rfl _ rfl b n _ rfl (hS.ext Ext.auK) (w.heap.size + 2) (by first | rfl | (simp; done) | (simp; omega)) ?_; intro w0 hrg0 hb0 hs0) | go_in)
  go_frame
  have x0 : Ext w w0 := Ext.trans Ext.auK hb0
  go_loopw [9] (fun _ wr => ∃ (p q : Int) (L : Int → Int → Bool) (cnt : Nat), IvR wr b (w.heap.size + 2) n E L cnt ∧ RowKit.Hid (L l0 h0 = false → p = l0 ∧ q = h0) ∧ wr.cell? ⟨w.heap.size, 0, none⟩ = some (.int .i64 0) ∧ wr.cell? ⟨w.heap.size, 1, none⟩ = some (.int .i64 0) ∧ wr.cell? ⟨w.heap.size + 1, 0, none⟩ = some (.int .i64 p) ∧ wr.cell? ⟨w.heap.size + 1, 1, none⟩ = some (.int .i64 q) ∧ wr.frozen? ⟨w.heap.size, 0, none⟩ = false ∧ wr.frozen? ⟨w.heap.size, 1, none⟩ = false ∧ wr.frozen? ⟨w.heap.size + 1, 0, none⟩ = false ∧ wr.frozen? ⟨w.heap.size + 1, 1, none⟩ = false ∧ w.heap.size + 2 < wr.heap.size ∧ Ext w wr) (fun _ wr => wr.rangeLeft b (w.heap.size + 2))
  case atStart =>
    refine ⟨0, 0, _, _, hrg0, Lib.hid ?_, ?_, ?_, ?_, ?_, ?_, ?_, ?_, ?_, by omega, x0⟩
    · intro hl; rw [(H1.out l0 h0 hw0).2 ⟨rfl, rfl⟩] at hl; cases hl
    all_goals first | exact (hb0.cells _ _ (by first | (simp; done) | (simp; omega))).trans (by first | (simp; done) | (simp [go_sem]; done)) | exact (hb0.frz _ _ (by first | (simp; done) | (simp; omega))).trans (by first | (simp; done) | (simp [go_sem]; done))
  case round =>
    obtain ⟨p, q, L, cnt, hrg, HI, c0, c1, c2, c3, f0, f1, f2, f3, hs, hx⟩ := hrel
    have hbr : b ≠ w.heap.size + 2 := fun e => hrg.ne e.symm
    have hcn := hrg.left_eq
    go_wp2_with (first | (at_next; refine wpList_iv_next _ rfl _ rfl b (w.heap.size + 2) n _ _ _ rfl hrg ?_ ?_) | go_in)
    · intro hl0
      obtain ⟨D, hD, hsz⟩ := IvS.one (hrg.owns) l0 h0 hw0 H1.out
      have HP : RowKit.Hid (p = l0 ∧ q = h0) := Lib.hid (HI.out (hl0 _ _ hw0))
      clear HI hl0 H1
      go_wp2_with (first | (at_len; refine wpList_iv_len _ rfl _ rfl b n D rfl hD 1 hsz ?_) | go_in)
      rw [HP.out.1, HP.out.2] at *
      exact bodyPost_ret (v := .tuple #[two l0 h0, .bool true]) (by simp [results, Tryz.results140, go_sem, *]) rfl ⟨rfl, Ext.auK⟩
    · intro l h c w1 cnt1 hw hl he hrg1 hlt hg1 hs1 hen
      have hx1 : Ext w w1 := gr_ext hx hg1 (by omega)
      have hs2 : w.heap.size + 2 < w1.heap.size := by omega
      have hsA : w.heap.size < w1.heap.size := by omega
      have hsB : w.heap.size + 1 < w1.heap.size := by omega
      have d0 : w1.cell? ⟨w.heap.size, 0, none⟩ = some (.int .i64 0) := (gr_cell hg1 (by omega) (by omega) _).trans c0
      have e0 : w1.frozen? ⟨w.heap.size, 0, none⟩ = false := (gr_frz hg1 (by omega) (by omega) _).trans f0
      have d1 : w1.cell? ⟨w.heap.size, 1, none⟩ = some (.int .i64 0) := (gr_cell hg1 (by omega) (by omega) _).trans c1
      have e1 : w1.frozen? ⟨w.heap.size, 1, none⟩ = false := (gr_frz hg1 (by omega) (by omega) _).trans f1
      have d2 : w1.cell? ⟨w.heap.size + 1, 0, none⟩ = some (.int .i64 p) := (gr_cell hg1 (by omega) (by omega) _).trans c2
      have e2 : w1.frozen? ⟨w.heap.size + 1, 0, none⟩ = false := (gr_frz hg1 (by omega) (by omega) _).trans f2
      have d3 : w1.cell? ⟨w.heap.size + 1, 1, none⟩ = some (.int .i64 q) := (gr_cell hg1 (by omega) (by omega) _).trans c3
      have e3 : w1.frozen? ⟨w.heap.size + 1, 1, none⟩ = false := (gr_frz hg1 (by omega) (by omega) _).trans f3
      have k0 : ∀ o : Obj, (w1.alloc o).cell? ⟨w.heap.size, 0, none⟩ = some (.int .i64 0) := fun o => ((Ext.new w1 o).cells _ _ hsA).trans d0
      have k1 : ∀ o : Obj, (w1.alloc o).cell? ⟨w.heap.size, 1, none⟩ = some (.int .i64 0) := fun o => ((Ext.new w1 o).cells _ _ hsA).trans d1
      have k6 : ∀ o : Obj, (w1.alloc o).frozen? ⟨w.heap.size, 0, none⟩ = false := fun o => ((Ext.new w1 o).frz _ _ hsA).trans e0
      have k7 : ∀ o : Obj, (w1.alloc o).frozen? ⟨w.heap.size, 1, none⟩ = false := fun o => ((Ext.new w1 o).frz _ _ hsA).trans e1
      have k2 : ∀ o : Obj, (w1.alloc o).cell? ⟨w.heap.size + 1, 0, none⟩ = some (.int .i64 p) := fun o => ((Ext.new w1 o).cells _ _ hsB).trans d2
      have k3 : ∀ o : Obj, (w1.alloc o).cell? ⟨w.heap.size + 1, 1, none⟩ = some (.int .i64 q) := fun o => ((Ext.new w1 o).cells _ _ hsB).trans d3
      have k4 : ∀ o : Obj, (w1.alloc o).frozen? ⟨w.heap.size + 1, 0, none⟩ = false := fun o => ((Ext.new w1 o).frz _ _ hsB).trans e2
      have k5 : ∀ o : Obj, (w1.alloc o).frozen? ⟨w.heap.size + 1, 1, none⟩ = false := fun o => ((Ext.new w1 o).frz _ _ hsB).trans e3
      have HN : RowKit.Hid (l = l0 ∧ h = h0) := Lib.hid ((H1.out l h hw).1 he)
      have hrg := hrg1
      clear c0 c1 c2 c3 f0 f1 f2 f3 HI hrg1
      go_wp2_with go_in
      go_roundw
      case rel =>
        refine ⟨l, h, _, cnt1, ((hrg.alloc _).setCell _ (by simp; omega) (by simp)).setCell _ (by simp; omega) (by simp), Lib.hid (fun _ => HN.out), ?_, ?_, ?_, ?_, ?_, ?_, ?_, ?_, by first | (simp; done) | (simp; omega) | omega, Ext.auK⟩
        all_goals first | (simp [go_sem, *]; done) | (simp [go_sem]; done)
      case measure => rw [IvR.left_eq (((hrg.alloc _).setCell _ (by simp; omega) (by simp)).setCell _ (by simp; omega) (by simp)), hcn]; exact hlt

set_option maxHeartbeats 6400000 in
theorem areWithin_yes (e f c d : Int) (b n : Nat) (E : Int → Int → Bool) (pE : ∀ l h, wf2 l h → E l h = true → patB e f l = true ∧ patB e f h = true) (pc : patB e f c = true) (pd : patB e f d = true) (h1 : ∀ l h, wf2 l h → E l h = true → wiB e f l h c d = true) (w : World) (hS : IvS w b n E) : Calls Tryz.prog 139 #[.map (some b), fmt e f, two c d] w fun rv w' => rv = .returned (.bool true) ∧ Ext w w' := by
  have hbl := hS.lt
  have H1 := Lib.hid h1
  have PE := Lib.hid pE
  have WI := Lib.hid (fun l h w pl ph => isWithin_any e f l h c d pl ph pc pd w)
  skip
  clear h1 pE pc pd
  go_enter Tryz.func139, Tryz.ntmps139
  go_wp2_with (first | (at_range; refine wpList_iv_range2 _ rfl _ rfl b n _ rfl (hS.ext Ext.auK) (w.heap.size + 2) (by first | rfl | (simp; done) | (simp; omega)) ?_; intro w0 hrg0 hb0 hs0) | go_in)
  go_frame
  have x0 : Ext w w0 := Ext.trans Ext.auK hb0
  go_loopw [10] (fun _ wr => ∃ (L : Int → Int → Bool) (cnt : Nat), IvR wr b (w.heap.size + 2) n E L cnt ∧ RowKit.Hid True ∧ wr.cell? ⟨w.heap.size, 0, none⟩ = some (.int .i64 e) ∧ wr.cell? ⟨w.heap.size, 1, none⟩ = some (.int .i64 f) ∧ wr.cell? ⟨w.heap.size + 1, 0, none⟩ = some (.int .i64 c) ∧ wr.cell? ⟨w.heap.size + 1, 1, none⟩ = some (.int .i64 d) ∧ w.heap.size + 2 < wr.heap.size ∧ Ext w wr) (fun _ wr => wr.rangeLeft b (w.heap.size + 2))
  case atStart =>
    refine ⟨_, _, hrg0, Lib.hid trivial, ?_, ?_, ?_, ?_, by omega, x0⟩
    all_goals exact (hb0.cells _ _ (by first | (simp; done) | (simp; omega))).trans (by first | (simp; done) | (simp [go_sem]; done))
  case round =>
    obtain ⟨L, cnt, hrg, HI, c0, c1, c2, c3, hs, hx⟩ := hrel
    have hbr : b ≠ w.heap.size + 2 := fun e => hrg.ne e.symm
    have hcn := hrg.left_eq
    go_wp2_with (first | (at_next; refine wpList_iv_next _ rfl _ rfl b (w.heap.size + 2) n _ _ _ rfl hrg ?_ ?_) | go_in)
    · intro hl0
      skip
      clear hl0
      go_wp2_with go_in
      go_ret
      exact ⟨rfl, Ext.auK⟩
    · intro l h cv w1 cnt1 hw hl he hrg1 hlt hg1 hs1 hen
      have hx1 : Ext w w1 := gr_ext hx hg1 (by omega)
      have hs2 : w.heap.size + 2 < w1.heap.size := by omega
      have hsA : w.heap.size < w1.heap.size := by omega
      have hsB : w.heap.size + 1 < w1.heap.size := by omega
      have d0 : w1.cell? ⟨w.heap.size, 0, none⟩ = some (.int .i64 e) := (gr_cell hg1 (by omega) (by omega) _).trans c0
      have d1 : w1.cell? ⟨w.heap.size, 1, none⟩ = some (.int .i64 f) := (gr_cell hg1 (by omega) (by omega) _).trans c1
      have d2 : w1.cell? ⟨w.heap.size + 1, 0, none⟩ = some (.int .i64 c) := (gr_cell hg1 (by omega) (by omega) _).trans c2
      have d3 : w1.cell? ⟨w.heap.size + 1, 1, none⟩ = some (.int .i64 d) := (gr_cell hg1 (by omega) (by omega) _).trans c3
      have HW : RowKit.Hid (∀ w, Calls Tryz.prog 49 #[fmt e f, two l h, two c d] w fun rv w' => rv = .returned (.bool (wiB e f l h c d)) ∧ Ext w w') := Lib.hid (fun w => WI.out l h w (PE.out l h hw he).1 (PE.out l h hw he).2)
      have hrgA := hrg
      have hrg := hrg1
      have hx0 := hx
      clear c0 c1 c2 c3 hrg1 hx hs
      have hx := hx1
      have hs : w.heap.size + 2 < w1.heap.size := hs2
      have g0 := d0; have g1 := d1; have g2 := d2; have g3 := d3
      clear d0 d1 d2 d3
      have k0 : ∀ o : Obj, (w1.alloc o).cell? ⟨w.heap.size, 0, none⟩ = some (.int .i64 e) := fun o => ((Ext.new w1 o).cells _ _ hsA).trans g0
      have k1 : ∀ o : Obj, (w1.alloc o).cell? ⟨w.heap.size, 1, none⟩ = some (.int .i64 f) := fun o => ((Ext.new w1 o).cells _ _ hsA).trans g1
      have k2 : ∀ o : Obj, (w1.alloc o).cell? ⟨w.heap.size + 1, 0, none⟩ = some (.int .i64 c) := fun o => ((Ext.new w1 o).cells _ _ hsB).trans g2
      have k3 : ∀ o : Obj, (w1.alloc o).cell? ⟨w.heap.size + 1, 1, none⟩ = some (.int .i64 d) := fun o => ((Ext.new w1 o).cells _ _ hsB).trans g3
      cases hB : wiB e f l h c d
      · rw [hB] at HW
        exfalso; have q1 := H1.out l h hw he; rw [hB] at q1; cases q1
        skip
        skip
        skip
      · rw [hB] at HW
        have HN : RowKit.Hid True := Lib.hid (trivial)
        clear hB HI
        go_wp2_with (first | (go_at_call 49; refine (HW.out _).mono ?_; rintro rv w2 ⟨rfl, hb⟩; have hkeep := hb; have ns : w1.heap.size < w2.heap.size := hb.ltK; have n0 : w2.cell? ⟨w.heap.size, 0, none⟩ = some (.int .i64 e) := hb.cellK; have n1 : w2.cell? ⟨w.heap.size, 1, none⟩ = some (.int .i64 f) := hb.cellK; have n2 : w2.cell? ⟨w.heap.size + 1, 0, none⟩ = some (.int .i64 c) := hb.cellK; have n3 : w2.cell? ⟨w.heap.size + 1, 1, none⟩ = some (.int .i64 d) := hb.cellK; have n4 : w2.cell? ⟨w1.heap.size, 0, none⟩ = some (.int .i64 l) := hb.cellK; have n5 : w2.cell? ⟨w1.heap.size, 1, none⟩ = some (.int .i64 h) := hb.cellK; (first | (have nx := hx.trK hb; clear hx) | have nx := hb); clear hb; try clear hs; try clear g0; try clear g1; try clear g2; try clear g3; try clear g4; try clear g5; have hx := nx; clear nx; have hs := ns; clear ns; have g0 := n0; clear n0; have g1 := n1; clear n1; have g2 := n2; clear n2; have g3 := n3; clear n3; have g4 := n4; clear n4; have g5 := n5; clear n5) | go_in)
        go_roundw
        case rel => exact ⟨_, cnt1, (hrg.alloc _).ext hkeep, HN, by with_reducible assumption, by with_reducible assumption, by with_reducible assumption, by with_reducible assumption, by omega, by first | assumption | repeat (first | exact Ext.refl _ | with_reducible assumption | apply Ext.alloc | apply Ext.drew | apply Ext.drewN | (refine Ext.setRow ?_ (by first | (simp; done) | (simp; omega) | omega) _) | (refine Ext.setCell ?_ (by first | (simp; done) | (simp; omega) | omega) _) | (refine Ext.trans ?_ (by with_reducible assumption)))⟩
        case measure => rw [IvR.left_eq ((hrg.alloc _).ext hkeep), hcn]; exact hlt

set_option maxHeartbeats 6400000 in
theorem areWithin_no (e f c d : Int) (b n : Nat) (E : Int → Int → Bool) (pE : ∀ l h, wf2 l h → E l h = true → patB e f l = true ∧ patB e f h = true) (pc : patB e f c = true) (pd : patB e f d = true) (l0 h0 : Int) (hw0 : wf2 l0 h0) (h0E : E l0 h0 = true) (h1 : wiB e f l0 h0 c d = false) (w : World) (hS : IvS w b n E) : Calls Tryz.prog 139 #[.map (some b), fmt e f, two c d] w fun rv w' => rv = .returned (.bool false) ∧ Ext w w' := by
  have hbl := hS.lt
  have H1 := Lib.hid h1
  have PE := Lib.hid pE
  have WI := Lib.hid (fun l h w pl ph => isWithin_any e f l h c d pl ph pc pd w)
  have H0 := Lib.hid h0E; clear h0E
  clear h1 pE pc pd
  go_enter Tryz.func139, Tryz.ntmps139
  go_wp2_with (first | (at_range; refine wpList_iv_range2 _ rfl _ rfl b n _ rfl (hS.ext Ext.auK) (w.heap.size + 2) (by first | rfl | (simp; done) | (simp; omega)) ?_; intro w0 hrg0 hb0 hs0) | go_in)
  go_frame
  have x0 : Ext w w0 := Ext.trans Ext.auK hb0
  go_loopw [10] (fun _ wr => ∃ (L : Int → Int → Bool) (cnt : Nat), IvR wr b (w.heap.size + 2) n E L cnt ∧ RowKit.Hid (L l0 h0 = true) ∧ wr.cell? ⟨w.heap.size, 0, none⟩ = some (.int .i64 e) ∧ wr.cell? ⟨w.heap.size, 1, none⟩ = some (.int .i64 f) ∧ wr.cell? ⟨w.heap.size + 1, 0, none⟩ = some (.int .i64 c) ∧ wr.cell? ⟨w.heap.size + 1, 1, none⟩ = some (.int .i64 d) ∧ w.heap.size + 2 < wr.heap.size ∧ Ext w wr) (fun _ wr => wr.rangeLeft b (w.heap.size + 2))
  case atStart =>
    refine ⟨_, _, hrg0, Lib.hid H0.out, ?_, ?_, ?_, ?_, by omega, x0⟩
    all_goals exact (hb0.cells _ _ (by first | (simp; done) | (simp; omega))).trans (by first | (simp; done) | (simp [go_sem]; done))
  case round =>
    obtain ⟨L, cnt, hrg, HI, c0, c1, c2, c3, hs, hx⟩ := hrel
    have hbr : b ≠ w.heap.size + 2 := fun e => hrg.ne e.symm
    have hcn := hrg.left_eq
    go_wp2_with (first | (at_next; refine wpList_iv_next _ rfl _ rfl b (w.heap.size + 2) n _ _ _ rfl hrg ?_ ?_) | go_in)
    · intro hl0
      exfalso; have q1 := hl0 l0 h0 hw0; rw [HI.out] at q1; cases q1
      skip
      skip
      skip
      skip
    · intro l h cv w1 cnt1 hw hl he hrg1 hlt hg1 hs1 hen
      have hx1 : Ext w w1 := gr_ext hx hg1 (by omega)
      have hs2 : w.heap.size + 2 < w1.heap.size := by omega
      have hsA : w.heap.size < w1.heap.size := by omega
      have hsB : w.heap.size + 1 < w1.heap.size := by omega
      have d0 : w1.cell? ⟨w.heap.size, 0, none⟩ = some (.int .i64 e) := (gr_cell hg1 (by omega) (by omega) _).trans c0
      have d1 : w1.cell? ⟨w.heap.size, 1, none⟩ = some (.int .i64 f) := (gr_cell hg1 (by omega) (by omega) _).trans c1
      have d2 : w1.cell? ⟨w.heap.size + 1, 0, none⟩ = some (.int .i64 c) := (gr_cell hg1 (by omega) (by omega) _).trans c2
      have d3 : w1.cell? ⟨w.heap.size + 1, 1, none⟩ = some (.int .i64 d) := (gr_cell hg1 (by omega) (by omega) _).trans c3
      have HW : RowKit.Hid (∀ w, Calls Tryz.prog 49 #[fmt e f, two l h, two c d] w fun rv w' => rv = .returned (.bool (wiB e f l h c d)) ∧ Ext w w') := Lib.hid (fun w => WI.out l h w (PE.out l h hw he).1 (PE.out l h hw he).2)
      have hrgA := hrg
      have hrg := hrg1
      have hx0 := hx
      clear c0 c1 c2 c3 hrg1 hx hs
      have hx := hx1
      have hs : w.heap.size + 2 < w1.heap.size := hs2
      have g0 := d0; have g1 := d1; have g2 := d2; have g3 := d3
      clear d0 d1 d2 d3
      have k0 : ∀ o : Obj, (w1.alloc o).cell? ⟨w.heap.size, 0, none⟩ = some (.int .i64 e) := fun o => ((Ext.new w1 o).cells _ _ hsA).trans g0
      have k1 : ∀ o : Obj, (w1.alloc o).cell? ⟨w.heap.size, 1, none⟩ = some (.int .i64 f) := fun o => ((Ext.new w1 o).cells _ _ hsA).trans g1
      have k2 : ∀ o : Obj, (w1.alloc o).cell? ⟨w.heap.size + 1, 0, none⟩ = some (.int .i64 c) := fun o => ((Ext.new w1 o).cells _ _ hsB).trans g2
      have k3 : ∀ o : Obj, (w1.alloc o).cell? ⟨w.heap.size + 1, 1, none⟩ = some (.int .i64 d) := fun o => ((Ext.new w1 o).cells _ _ hsB).trans g3
      cases hB : wiB e f l h c d
      · rw [hB] at HW
        clear hB
        go_wp2_with (first | (go_at_call 49; refine (HW.out _).mono ?_; rintro rv w2 ⟨rfl, hb⟩; have ns : w1.heap.size < w2.heap.size := hb.ltK; have n0 : w2.cell? ⟨w.heap.size, 0, none⟩ = some (.int .i64 e) := hb.cellK; have n1 : w2.cell? ⟨w.heap.size, 1, none⟩ = some (.int .i64 f) := hb.cellK; have n2 : w2.cell? ⟨w.heap.size + 1, 0, none⟩ = some (.int .i64 c) := hb.cellK; have n3 : w2.cell? ⟨w.heap.size + 1, 1, none⟩ = some (.int .i64 d) := hb.cellK; have n4 : w2.cell? ⟨w1.heap.size, 0, none⟩ = some (.int .i64 l) := hb.cellK; have n5 : w2.cell? ⟨w1.heap.size, 1, none⟩ = some (.int .i64 h) := hb.cellK; (first | (have nx := hx.trK hb; clear hx) | have nx := hb); clear hb; try clear hs; try clear g0; try clear g1; try clear g2; try clear g3; try clear g4; try clear g5; have hx := nx; clear nx; have hs := ns; clear ns; have g0 := n0; clear n0; have g1 := n1; clear n1; have g2 := n2; clear n2; have g3 := n3; clear n3; have g4 := n4; clear n4; have g5 := n5; clear n5) | go_in)
        go_ret
        exact ⟨rfl, Ext.auK⟩
      · rw [hB] at HW
        have HN : RowKit.Hid (skB L l h l0 h0 = true) := Lib.hid (by unfold skB; rw [HI.out, Bool.true_and, show (l0 == l && h0 == h) = false from Bool.eq_false_iff.2 (fun q => by simp only [Bool.and_eq_true, beq_iff_eq] at q; have q2 := H1.out; rw [q.1, q.2, hB] at q2; cases q2)]; rfl)
        clear hB HI
        go_wp2_with (first | (go_at_call 49; refine (HW.out _).mono ?_; rintro rv w2 ⟨rfl, hb⟩; have hkeep := hb; have ns : w1.heap.size < w2.heap.size := hb.ltK; have n0 : w2.cell? ⟨w.heap.size, 0, none⟩ = some (.int .i64 e) := hb.cellK; have n1 : w2.cell? ⟨w.heap.size, 1, none⟩ = some (.int .i64 f) := hb.cellK; have n2 : w2.cell? ⟨w.heap.size + 1, 0, none⟩ = some (.int .i64 c) := hb.cellK; have n3 : w2.cell? ⟨w.heap.size + 1, 1, none⟩ = some (.int .i64 d) := hb.cellK; have n4 : w2.cell? ⟨w1.heap.size, 0, none⟩ = some (.int .i64 l) := hb.cellK; have n5 : w2.cell? ⟨w1.heap.size, 1, none⟩ = some (.int .i64 h) := hb.cellK; (first | (have nx := hx.trK hb; clear hx) | have nx := hb); clear hb; try clear hs; try clear g0; try clear g1; try clear g2; try clear g3; try clear g4; try clear g5; have hx := nx; clear nx; have hs := ns; clear ns; have g0 := n0; clear n0; have g1 := n1; clear n1; have g2 := n2; clear n2; have g3 := n3; clear n3; have g4 := n4; clear n4; have g5 := n5; clear n5) | go_in)
        go_roundw
        case rel => exact ⟨_, cnt1, (hrg.alloc _).ext hkeep, HN, by with_reducible assumption, by with_reducible assumption, by with_reducible assumption, by with_reducible assumption, by omega, by first | assumption | repeat (first | exact Ext.refl _ | with_reducible assumption | apply Ext.alloc | apply Ext.drew | apply Ext.drewN | (refine Ext.setRow ?_ (by first | (simp; done) | (simp; omega) | omega) _) | (refine Ext.setCell ?_ (by first | (simp; done) | (simp; omega) | omega) _) | (refine Ext.trans ?_ (by with_reducible assumption)))⟩
        case measure => rw [IvR.left_eq ((hrg.alloc _).ext hkeep), hcn]; exact hlt

/-- Those that are still to come, or stay. -/
def kpB (E L Q : Int → Int → Bool) (p q : Int) : Bool := E p q && (L p q || Q p q)

set_option maxHeartbeats 6400000 in
theorem keep_widest (q0 q1 : Nat) (b n : Nat) (E Q : Int → Int → Bool) (w : World) (hS : IvS w b n E)
    (hq : ∀ (w1 : World) (L : Int → Int → Bool) (l h : Int), w.grownBy w1 (some b) → IvS w1 b n (kpB E L Q) → E l h = true → wf2 l h → Calls Tryz.prog 138 #[two l h, .pointer (some ⟨q0, 0, none⟩), .pointer (some ⟨q1, 0, none⟩)] w1 fun rv w' => rv = .returned (.bool (Q l h)) ∧ Ext w1 w') :
    Calls Tryz.prog 137 #[.map (some b), .func (.func 138) #[] #[.pointer (some ⟨q0, 0, none⟩), .pointer (some ⟨q1, 0, none⟩)]] w fun rv w' => rv = .returned (.tuple #[]) ∧ IvS w' b n (fun p q => E p q && Q p q) ∧ w.grownBy w' (some b) := by
  have hbl := hS.lt
  have HQ := Lib.hid hq
  clear hq
  go_enter Tryz.func137, Tryz.ntmps137
  go_wp2_with (first | (at_range; refine wpList_iv_range2 _ rfl _ rfl b n _ rfl hS (w.heap.size) (by first | rfl | (simp; done) | (simp; omega)) ?_; intro w0 hrg0 hb0 hs0) | go_in)
  go_frame
  go_loopw [7] (fun _ wr => ∃ (L : Int → Int → Bool) (cnt : Nat), IvR wr b w.heap.size n (kpB E L Q) L cnt ∧ w.heap.size < wr.heap.size ∧ w.grownBy wr (some b)) (fun _ wr => wr.rangeLeft b w.heap.size)
  case atStart =>
    refine ⟨E, _, hrg0.same (fun l h _ => ?_) (fun _ _ _ => rfl), by omega, (ivext_grown hb0).but _⟩
    unfold kpB
    cases E l h <;> rfl
  case round =>
    obtain ⟨L, cnt, hrg, hs, hgw⟩ := hrel
    have hbr : b ≠ w.heap.size := fun e => hrg.ne e.symm
    have hcn := hrg.left_eq
    go_wp2_with (first | (at_next; refine wpList_iv_next _ rfl _ rfl b (w.heap.size) n _ _ _ rfl hrg ?_ ?_) | go_in)
    · intro hl0
      go_wp2_with go_in
      go_end0
      exact ⟨rfl, hrg.owns.same (fun l h hw => by unfold kpB; rw [hl0 l h hw, Bool.false_or]), hgw⟩
    · intro l h cv w1 cnt1 hw hl he hrg1 hlt hg1 hs1 hen
      have heE : E l h = true := by
        have q1 := he
        unfold kpB at q1
        simp only [Bool.and_eq_true] at q1
        exact q1.1
      have hgw1 : w.grownBy w1 (some b) := hgw.andThen hg1 (fun j hj => by cases hj; exact Or.inl (Nat.le_refl _))
      have hgA : ∀ o : Obj, w.grownBy (w1.alloc o) (some b) := fun o => hgw1.andThen (World.grownBy_alloc w1 o none) (fun j hj => by cases hj)
      have CQ := Lib.hid (fun o => HQ.out (w1.alloc o) L l h (hgA o) (hrg1.alloc o).owns heE hw)
      have hnew : ∀ c0 c1 : Value, ∀ t, (w1.alloc (.cells #[c0, c1] t)).heap.size = w1.heap.size + 1 := fun _ _ _ => by simp
      have HE : RowKit.Hid (E l h = true ∧ L l h = true) := Lib.hid ⟨heE, hl⟩
      have hsz := hg1.size
      clear he heE hl hs1
      cases hB : Q l h
      · rw [hB] at CQ
        have HB := Lib.hid hB
        clear hB
        go_wp2_with (first
          | (go_at_call 138; refine (CQ.out _).mono ?_; rintro rv w2 ⟨rfl, hb⟩; have m0 : w2.cell? ⟨w1.heap.size, 0, none⟩ = some (.int .i64 l) := (hb.cells _ _ (by simp)).trans (by simp [go_sem]); have m1 : w2.cell? ⟨w1.heap.size, 1, none⟩ = some (.int .i64 h) := (hb.cells _ _ (by simp)).trans (by simp [go_sem]); have hr2 := (hrg1.alloc _).ext hb; have hg2 := (hgA _).andThen (ivext_grown hb) (fun j hj => by cases hj); have hz2 : w1.heap.size < w2.heap.size := hb.lt (by simp))
          | (at_delete; refine wpList_iv_delete _ rfl _ _ rfl b w.heap.size n _ _ _ rfl hr2 l h hw rfl ?_; intro w3 cnt3 hr3 hle3 hg3 hs3; go_frame)
          | go_in)
        go_roundw
        case rel =>
          refine ⟨skB L l h, cnt3, hr3.same (fun p q hpq => ?_) (fun p q hpq => ?_), by omega, hg2.andThen hg3 (fun j hj => by cases hj; exact Or.inr rfl)⟩
          · show ((E p q && (L p q || Q p q)) && !(p == l && q == h)) = (E p q && ((L p q && !(p == l && q == h)) || Q p q))
            by_cases hc : (p == l && q == h) = true
            · have hc2 := hc
              simp only [Bool.and_eq_true, beq_iff_eq] at hc2
              rw [hc, hc2.1, hc2.2, HB.out]
              simp
            · rw [Bool.eq_false_iff.2 hc]
              simp
          · unfold skB
            cases (p == l && q == h) <;> simp
        case measure => rw [hr3.left_eq, hcn]; omega
      · rw [hB] at CQ
        have HB := Lib.hid hB
        clear hB
        go_wp2_with (first
          | (go_at_call 138; refine (CQ.out _).mono ?_; rintro rv w2 ⟨rfl, hb⟩; have m0 : w2.cell? ⟨w1.heap.size, 0, none⟩ = some (.int .i64 l) := (hb.cells _ _ (by simp)).trans (by simp [go_sem]); have m1 : w2.cell? ⟨w1.heap.size, 1, none⟩ = some (.int .i64 h) := (hb.cells _ _ (by simp)).trans (by simp [go_sem]); have hr2 := (hrg1.alloc _).ext hb; have hg2 := (hgA _).andThen (ivext_grown hb) (fun j hj => by cases hj); have hz2 : w1.heap.size < w2.heap.size := hb.lt (by simp))
          | go_in)
        go_roundw
        case rel =>
          refine ⟨skB L l h, cnt1, hr2.same (fun p q hpq => ?_) (fun p q hpq => rfl), by omega, hg2⟩
          show (E p q && (L p q || Q p q)) = (E p q && ((L p q && !(p == l && q == h)) || Q p q))
          by_cases hc : (p == l && q == h) = true
          · have hc2 := hc
            simp only [Bool.and_eq_true, beq_iff_eq] at hc2
            rw [hc, hc2.1, hc2.2, HB.out]
            simp
          · rw [Bool.eq_false_iff.2 hc]
            simp
        case measure => rw [hr2.left_eq, hcn]; omega
end Go.Proofs.YtfgbndjhaiigbaaGreatDoor

namespace Go.Proofs.YtfgbndjhaiigbaaGreatDoor
open Go Go.RowKit Go.Maps
set_option linter.unusedSimpArgs false
set_option linter.unusedVariables false
set_option maxRecDepth 100000

/-- The first t pairs of two rows of n, as far as they are intervals. -/
def btB (e f : Int) (V U : Nat → Int) (n t : Nat) (p q : Int) : Bool := (List.range t).any (fun s => p == V (s / n) && q == U (s % n)) && ivB e f p q

theorem bt_succ (e f : Int) (V U : Nat → Int) (n k j : Nat) (hj : j < n) (p q : Int) : btB e f V U n (k * n + j + 1) p q = (btB e f V U n (k * n + j) p q || (p == V k && q == U j) && ivB e f p q) := by
  have e1 : (k * n + j) / n = k := by rw [Nat.mul_comm, Nat.mul_add_div (by omega), Nat.div_eq_of_lt hj, Nat.add_zero]
  have e2 : (k * n + j) % n = j := by rw [Nat.mul_comm, Nat.mul_add_mod, Nat.mod_eq_of_lt hj]
  unfold btB
  rw [List.range_succ, List.any_append]
  simp only [List.any_cons, List.any_nil, Bool.or_false, e1, e2]
  cases (List.range (k * n + j)).any (fun s => p == V (s / n) && q == U (s % n)) <;> cases ivB e f p q <;> simp

theorem bt_iff {e f : Int} {V U : Nat → Int} {n : Nat} {p q : Int} : btB e f V U n (n * n) p q = true ↔ ivB e f p q = true ∧ ∃ i j, i < n ∧ j < n ∧ p = V i ∧ q = U j := by
  unfold btB
  rw [Bool.and_eq_true, List.any_eq_true]
  constructor
  · rintro ⟨⟨s, hs, h⟩, hi⟩
    rw [List.mem_range] at hs
    simp only [Bool.and_eq_true, beq_iff_eq] at h
    have hn : 0 < n := Nat.pos_of_ne_zero (fun z => by rw [z] at hs; omega)
    exact ⟨hi, s / n, s % n, Nat.div_lt_of_lt_mul hs, Nat.mod_lt _ hn, h.1, h.2⟩
  · rintro ⟨hi, i, j, hi2, hj, rfl, rfl⟩
    refine ⟨⟨i * n + j, ?_, ?_⟩, hi⟩
    · rw [List.mem_range]
      have := Nat.mul_le_mul_right n (show i + 1 ≤ n by omega)
      rw [Nat.add_mul] at this
      omega
    · have e1 : (i * n + j) / n = i := by rw [Nat.mul_comm, Nat.mul_add_div (by omega), Nat.div_eq_of_lt hj, Nat.add_zero]
      have e2 : (i * n + j) % n = j := by rw [Nat.mul_comm, Nat.mul_add_mod, Nat.mod_eq_of_lt hj]
      rw [e1, e2]; simp

set_option maxHeartbeats 12800000 in
theorem between_any (e f : Int) (V U : Nat → Int) (gl gh n cl ch : Nat) (hn : n ≤ 16) (hwV : ∀ i, i < n → (Lit.int .i64 (V i)).wf = true) (hwU : ∀ i, i < n → (Lit.int .i64 (U i)).wf = true) (w : World) (hl : ∀ i, i < n → w.cell? ⟨gl, i, none⟩ = some (.int .i64 (V i))) (hh : ∀ i, i < n → w.cell? ⟨gh, i, none⟩ = some (.int .i64 (U i))) (gl0 : gl < w.heap.size) (gh0 : gh < w.heap.size) :
    Calls Tryz.prog 136 #[fmt e f, .slice (some ⟨gl, 0, none⟩) n cl, .slice (some ⟨gh, 0, none⟩) n ch] w fun rv w' => rv = .returned (.map (some (w.heap.size + 1))) ∧ IvS w' (w.heap.size + 1) (n * n) (btB e f V U n (n * n)) ∧ Ext w w' := by
  have II := Lib.hid (fun p q w => isInterval_any e f p q w)
  have hmm := @run_makeMap Tryz.prog
  go_enter Tryz.func136, Tryz.ntmps136
  go_wp2_with go_in
  go_loopw [16] (fun x wr => ∃ k : Nat, x = .int .i64 (k : Int) ∧ k ≤ n ∧ IvS wr (w.heap.size + 1) (k * n) (btB e f V U n (k * n)) ∧ wr.cell? ⟨w.heap.size, 0, none⟩ = some (.int .i64 e) ∧ wr.cell? ⟨w.heap.size, 1, none⟩ = some (.int .i64 f) ∧ w.heap.size + 1 < wr.heap.size ∧ Ext w wr) (fun x _ => n - (intOf x).toNat)
  case atStart =>
    refine ⟨0, rfl, by omega, ?_, by simp [go_sem], by simp [go_sem], by simp, Ext.auK⟩
    rw [Nat.zero_mul]
    have q := iv_new (w.alloc (.cells #[.int .i64 e, .int .i64 f] 29))
    rw [World.size_alloc] at q
    exact q
  case round =>
    obtain ⟨k, rfl, hk, hS, g0, g1, hs, hx⟩ := hrel
    obtain ⟨wo, hwo⟩ : ∃ x, x = wr := ⟨_, rfl⟩
    subst hwo
    by_cases hlt : k < n
    · have hlt2 : k < n := hlt
      have h1 : ((k : Nat) : Int) < (n : Int) := by omega
      have h0 : (0 : Int) ≤ (k : Int) := by omega
      have h2 : ((k : Int)).toNat = k := by omega
      have u1 : IntKind.i64.wrap ((k : Int) + 1) = (k : Int) + 1 := IntWalk.i64_in _ (by omega)
      have ga : wo.cell? ⟨gl, k, none⟩ = some (.int .i64 (V k)) := (hx.cells _ _ gl0).trans (hl k hlt2)
      have hwk := hwV k hlt2
      go_wp2_with go_in
      go_loopw [22] (fun y wr => ∃ j : Nat, y = .int .i64 (j : Int) ∧ j ≤ n ∧ IvS wr (w.heap.size + 1) (k * n + j) (btB e f V U n (k * n + j)) ∧ wr.cell? ⟨w.heap.size, 0, none⟩ = some (.int .i64 e) ∧ wr.cell? ⟨w.heap.size, 1, none⟩ = some (.int .i64 f) ∧ w.heap.size + 1 < wr.heap.size ∧ Ext w wr) (fun y _ => n - (intOf y).toNat)
      case atStart => exact ⟨0, rfl, by omega, hS, by with_reducible assumption, by with_reducible assumption, by with_reducible assumption, by with_reducible assumption⟩
      case round =>
        obtain ⟨j, rfl, hj, hS2, m0, m1, hs2, hx2⟩ := hrel
        obtain ⟨wi, hwi⟩ : ∃ x, x = wr := ⟨_, rfl⟩
        subst hwi
        clear ga g0 g1 hS hs hx
        by_cases hlj : j < n
        · have hlj2 : j < n := hlj
          have j1 : ((j : Nat) : Int) < (n : Int) := by omega
          have j0 : (0 : Int) ≤ (j : Int) := by omega
          have j2 : ((j : Int)).toNat = j := by omega
          have v1 : IntKind.i64.wrap ((j : Int) + 1) = (j : Int) + 1 := IntWalk.i64_in _ (by omega)
          have gb : wi.cell? ⟨gh, j, none⟩ = some (.int .i64 (U j)) := (hx2.cells _ _ gh0).trans (hh j hlj2)
          have hw2 : wf2 (V k) (U j) := ⟨hwk, hwU j hlj2⟩
          have hm : k * n + j < 1000 := by
            have := Nat.mul_le_mul (show k ≤ 16 by omega) hn
            omega
          have hstep := Lib.hid (bt_succ e f V U n k j hlj2)
          have bu : ∀ (u v : Int) w, (Instr.build 26 #[(0, .int .i64 u), (1, .int .i64 v)]).run Tryz.prog w = .ok (two u v) w := fun u v w => run_build w _ _ _ (by kernel_rfl)
          have IV := Lib.hid (fun w => II.out (V k) (U j) w)
          have hk0 : w.heap.size < wi.heap.size := by omega
          have k0 : ∀ o : Obj, (wi.alloc o).cell? ⟨w.heap.size, 0, none⟩ = some (.int .i64 e) := fun o => ((Ext.new wi o).cells _ _ hk0).trans m0
          have k1 : ∀ o : Obj, (wi.alloc o).cell? ⟨w.heap.size, 1, none⟩ = some (.int .i64 f) := fun o => ((Ext.new wi o).cells _ _ hk0).trans m1
          cases hB : ivB e f (V k) (U j)
          · rw [hB] at IV
            have HS : RowKit.Hid (∀ l h, wf2 l h → btB e f V U n (k * n + j) l h = btB e f V U n (k * n + j + 1) l h) := Lib.hid (fun l h _ => by
              rw [hstep.out l h]
              by_cases hc : (l == V k && h == U j) = true
              · have hc2 := hc
                simp only [Bool.and_eq_true, beq_iff_eq] at hc2
                rw [hc, hc2.1, hc2.2, hB]; simp
              · rw [Bool.eq_false_iff.2 hc]; simp)
            clear hB hstep
            go_wp2_with (first | (go_at_call 54; refine (IV.out _).mono ?_; rintro rv w2 ⟨rfl, hb⟩; have q0 : w2.cell? ⟨w.heap.size, 0, none⟩ = some (.int .i64 e) := (hb.cells _ _ (by simp; omega)).trans (k0 _); have q1 : w2.cell? ⟨w.heap.size, 1, none⟩ = some (.int .i64 f) := (hb.cells _ _ (by simp; omega)).trans (k1 _); have hz := hb.lt (k := wi.heap.size) (by simp); have hS3 := (hS2.alloc _).ext hb; have hx3 : Ext w w2 := Ext.trans (hx2.alloc _) hb) | go_in)
            go_roundw
            case rel => exact ⟨j + 1, by simp, by omega, (hS3.mono (by omega)).same HS.out, q0, q1, by omega, hx3⟩
            case measure => simp [intOf]; omega
          · rw [hB] at IV
            have HS : RowKit.Hid (∀ l h, wf2 l h → ((l == V k && h == U j) || btB e f V U n (k * n + j) l h) = btB e f V U n (k * n + j + 1) l h) := Lib.hid (fun l h _ => by
              rw [hstep.out l h]
              by_cases hc : (l == V k && h == U j) = true
              · have hc2 := hc
                simp only [Bool.and_eq_true, beq_iff_eq] at hc2
                rw [hc, hc2.1, hc2.2, hB]; simp
              · rw [Bool.eq_false_iff.2 hc]; simp)
            clear hB hstep
            go_wp2_with (first
              | (go_at_call 54; refine (IV.out _).mono ?_; rintro rv w2 ⟨rfl, hb⟩; have q0 : w2.cell? ⟨w.heap.size, 0, none⟩ = some (.int .i64 e) := (hb.cells _ _ (by simp; omega)).trans (k0 _); have q1 : w2.cell? ⟨w.heap.size, 1, none⟩ = some (.int .i64 f) := (hb.cells _ _ (by simp; omega)).trans (k1 _); have q2 : w2.cell? ⟨wi.heap.size, 0, none⟩ = some (.int .i64 (V k)) := (hb.cells _ _ (by simp)).trans (by simp [go_sem]); have q3 : w2.cell? ⟨wi.heap.size, 1, none⟩ = some (.int .i64 (U j)) := (hb.cells _ _ (by simp)).trans (by simp [go_sem]); have hz := hb.lt (k := wi.heap.size) (by simp); have hS3 := (hS2.alloc _).ext hb; have hx3 : Ext w w2 := Ext.trans (hx2.alloc _) hb)
              | (at_mapUpdate; refine wpList_iv_store _ rfl _ _ _ rfl (w.heap.size + 1) (k * n + j) _ rfl hS3 hm _ _ hw2 _ rfl rfl ?_; intro w3 hS4 hg4; go_frame)
              | go_in)
            go_roundw
            case rel => exact ⟨j + 1, by simp, by omega, hS4.same HS.out, (gr_cell hg4 (by omega) (by omega) _).trans q0, (gr_cell hg4 (by omega) (by omega) _).trans q1, by have := hg4.size; omega, gr_ext hx3 hg4 (by omega)⟩
            case measure => simp [intOf]; omega
        · have j1 : ¬ ((j : Nat) : Int) < (n : Int) := by omega
          have ej : j = n := by omega
          have HS := Lib.hid hS2
          clear hS2
          go_wp2_with go_in
          go_roundw
          case rel => exact ⟨k + 1, by simp, by omega, by rw [Nat.add_mul, Nat.one_mul]; rw [ej] at HS; exact HS.out, m0, m1, hs2, hx2⟩
          case measure => simp [intOf]; omega
    · have h1 : ¬ ((k : Nat) : Int) < (n : Int) := by omega
      have ek : k = n := by omega
      have HS := Lib.hid hS
      clear hS
      go_wp2_with go_in
      go_ret
      exact ⟨rfl, by rw [ek] at HS; exact HS.out, hx⟩
end Go.Proofs.YtfgbndjhaiigbaaGreatDoor

namespace Go.Proofs.YtfgbndjhaiigbaaGreatDoor
open Go Go.RowKit Go.Maps
set_option linter.unusedSimpArgs false
set_option linter.unusedVariables false
set_option maxRecDepth 100000

set_option maxHeartbeats 1600000 in
theorem wclo_true (e f l h : Int) (q0 q1 b n : Nat) (E : Int → Int → Bool) (w : World) (m0 : w.cell? ⟨q0, 0, none⟩ = some (.map (some b))) (f0 : w.cell? ⟨q1, 0, none⟩ = some (.int .i64 e)) (f1 : w.cell? ⟨q1, 1, none⟩ = some (.int .i64 f)) (z0 : q0 < w.heap.size) (z1 : q1 < w.heap.size) (hS : IvS w b n E)
    (ha : ∀ w, IvS w b n E → Calls Tryz.prog 139 #[.map (some b), fmt e f, two l h] w fun rv w' => rv = .returned (.bool true) ∧ Ext w w') : Calls Tryz.prog 138 #[two l h, .pointer (some ⟨q0, 0, none⟩), .pointer (some ⟨q1, 0, none⟩)] w fun rv w' => rv = .returned (.bool true) ∧ Ext w w' := by
  have AW := Lib.hid ha
  clear ha
  have k0 : ∀ o : Obj, (w.alloc o).cell? ⟨q0, 0, none⟩ = some (.map (some b)) := fun o => ((Ext.new w o).cells _ _ z0).trans m0
  have k1 : ∀ o : Obj, (w.alloc o).cell? ⟨q1, 0, none⟩ = some (.int .i64 e) := fun o => ((Ext.new w o).cells _ _ z1).trans f0
  have k2 : ∀ o : Obj, (w.alloc o).cell? ⟨q1, 1, none⟩ = some (.int .i64 f) := fun o => ((Ext.new w o).cells _ _ z1).trans f1
  go_enter Tryz.func138, Tryz.ntmps138
  go_wp2_with (first | (go_at_call 139; refine (AW.out _ (hS.alloc _)).mono ?_; rintro rv w2 ⟨rfl, hb⟩) | go_in)
  go_ret
  exact ⟨rfl, Ext.trans (Ext.new _ _) hb⟩

set_option maxHeartbeats 1600000 in
theorem wclo_false (e f l h : Int) (q0 q1 b n : Nat) (E : Int → Int → Bool) (w : World) (m0 : w.cell? ⟨q0, 0, none⟩ = some (.map (some b))) (f0 : w.cell? ⟨q1, 0, none⟩ = some (.int .i64 e)) (f1 : w.cell? ⟨q1, 1, none⟩ = some (.int .i64 f)) (z0 : q0 < w.heap.size) (z1 : q1 < w.heap.size) (hS : IvS w b n E)
    (ha : ∀ w, IvS w b n E → Calls Tryz.prog 139 #[.map (some b), fmt e f, two l h] w fun rv w' => rv = .returned (.bool false) ∧ Ext w w') : Calls Tryz.prog 138 #[two l h, .pointer (some ⟨q0, 0, none⟩), .pointer (some ⟨q1, 0, none⟩)] w fun rv w' => rv = .returned (.bool false) ∧ Ext w w' := by
  have AW := Lib.hid ha
  clear ha
  have k0 : ∀ o : Obj, (w.alloc o).cell? ⟨q0, 0, none⟩ = some (.map (some b)) := fun o => ((Ext.new w o).cells _ _ z0).trans m0
  have k1 : ∀ o : Obj, (w.alloc o).cell? ⟨q1, 0, none⟩ = some (.int .i64 e) := fun o => ((Ext.new w o).cells _ _ z1).trans f0
  have k2 : ∀ o : Obj, (w.alloc o).cell? ⟨q1, 1, none⟩ = some (.int .i64 f) := fun o => ((Ext.new w o).cells _ _ z1).trans f1
  go_enter Tryz.func138, Tryz.ntmps138
  go_wp2_with (first | (go_at_call 139; refine (AW.out _ (hS.alloc _)).mono ?_; rintro rv w2 ⟨rfl, hb⟩) | go_in)
  go_ret
  exact ⟨rfl, Ext.trans (Ext.new _ _) hb⟩

theorem pat_wf {e f p : Int} (hp : patB e f p = true) : (Lit.int .i64 p).wf = true := by
  obtain ⟨hg, p0, p1⟩ := pat_iff.1 hp
  have := (in_bd hg).2.2
  exact wf_of (by omega) (by omega)

/-- All others are in the widest one, and it is in no other. -/
theorem wi_widest {e f : Int} {V U : Nat → Int} {n i0 j0 : Nat} (enV : ∀ i, i < n → enB e f (V i) = true) (enU : ∀ i, i < n → enB e f (U i) = true) (hi : i0 < n) (hj : j0 < n) (hv : ivB e f (V i0) (U j0) = true) (leV : ∀ i, i < n → sfV e f (V i0) ≤ sfV e f (V i)) (leU : ∀ i, i < n → sfV e f (U i) ≤ sfV e f (U j0)) {l h : Int} (hE : btB e f V U n (n * n) l h = true) :
    wiB e f l h (V i0) (U j0) = true ∧ (wiB e f (V i0) (U j0) l h = true → l = V i0 ∧ h = U j0) ∧ patB e f l = true ∧ patB e f h = true := by
  obtain ⟨hi2, i, j, hin, hjn, rfl, rfl⟩ := bt_iff.1 hE
  have a1 := leV i hin
  have a2 := leU j hjn
  refine ⟨?_, fun hw => ?_, (iv_pats hi2).1, (iv_pats hi2).2⟩
  · unfold wiB
    rw [decide_eq_true a1, decide_eq_true a2]; rfl
  · unfold wiB at hw
    rw [Bool.and_eq_true, decide_eq_true_eq, decide_eq_true_eq] at hw
    exact ⟨sf_inj (enV i hin) (enV i0 hi) (by omega), sf_inj (enU j hjn) (enU j0 hj) (by omega)⟩

theorem widest_hq {e f : Int} {V U : Nat → Int} {n i0 j0 : Nat} (enV : ∀ i, i < n → enB e f (V i) = true) (enU : ∀ i, i < n → enB e f (U i) = true) (hi : i0 < n) (hj : j0 < n) (hv : ivB e f (V i0) (U j0) = true) (leV : ∀ i, i < n → sfV e f (V i0) ≤ sfV e f (V i)) (leU : ∀ i, i < n → sfV e f (U i) ≤ sfV e f (U j0)) {W : World} {q0 q1 b : Nat}
    (m0 : W.cell? ⟨q0, 0, none⟩ = some (.map (some b))) (f0 : W.cell? ⟨q1, 0, none⟩ = some (.int .i64 e)) (f1 : W.cell? ⟨q1, 1, none⟩ = some (.int .i64 f)) (z0 : q0 < W.heap.size) (z1 : q1 < W.heap.size) (y0 : q0 ≠ b) (y1 : q1 ≠ b) :
    ∀ (w : World) (L : Int → Int → Bool) (l h : Int), W.grownBy w (some b) → IvS w b (n * n) (kpB (btB e f V U n (n * n)) L (fun p q => p == V i0 && q == U j0)) → btB e f V U n (n * n) l h = true → wf2 l h → Calls Tryz.prog 138 #[two l h, .pointer (some ⟨q0, 0, none⟩), .pointer (some ⟨q1, 0, none⟩)] w fun rv w' => rv = .returned (.bool ((fun p q => p == V i0 && q == U j0) l h)) ∧ Ext w w' := by
  intro w L l h hg hS hE hw
  have c0 := (gr_cell hg z0 y0 0).trans m0
  have c1 := (gr_cell hg z1 y1 0).trans f0
  have c2 := (gr_cell hg z1 y1 1).trans f1
  have s0 : q0 < w.heap.size := Nat.lt_of_lt_of_le z0 hg.size
  have s1 : q1 < w.heap.size := Nat.lt_of_lt_of_le z1 hg.size
  have hsub : ∀ l h, kpB (btB e f V U n (n * n)) L (fun p q => p == V i0 && q == U j0) l h = true → btB e f V U n (n * n) l h = true := fun l h k => by
    unfold kpB at k
    rw [Bool.and_eq_true] at k
    exact k.1
  obtain ⟨_, _, pl, ph⟩ := wi_widest enV enU hi hj hv leV leU hE
  have pE : ∀ l h, wf2 l h → kpB (btB e f V U n (n * n)) L (fun p q => p == V i0 && q == U j0) l h = true → patB e f l = true ∧ patB e f h = true := fun l h _ k => (wi_widest enV enU hi hj hv leV leU (hsub l h k)).2.2
  show Calls Tryz.prog 138 _ w fun rv w' => rv = .returned (.bool (l == V i0 && h == U j0)) ∧ Ext w w'
  cases hB : (l == V i0 && h == U j0)
  · refine wclo_false e f l h q0 q1 b (n * n) _ w c0 c1 c2 s0 s1 hS (fun w hS => ?_)
    have hW : btB e f V U n (n * n) (V i0) (U j0) = true := bt_iff.2 ⟨hv, i0, j0, hi, hj, rfl, rfl⟩
    refine areWithin_no e f l h b (n * n) _ pE pl ph (V i0) (U j0) ⟨pat_wf (iv_pats hv).1, pat_wf (iv_pats hv).2⟩ ?_ ?_ w hS
    · unfold kpB
      rw [hW]; simp
    · refine Bool.eq_false_iff.2 (fun k => ?_)
      obtain ⟨rfl, rfl⟩ := (wi_widest enV enU hi hj hv leV leU hE).2.1 k
      simp at hB
  · simp only [Bool.and_eq_true, beq_iff_eq] at hB
    refine wclo_true e f l h q0 q1 b (n * n) _ w c0 c1 c2 s0 s1 hS (fun w hS => ?_)
    refine areWithin_yes e f l h b (n * n) _ pE pl ph (fun p q _ k => ?_) w hS
    rw [hB.1, hB.2]
    exact (wi_widest enV enU hi hj hv leV leU (hsub p q k)).1

theorem between_ex (e f : Int) (V U : Nat → Int) (gl gh n cl ch : Nat) (hn : n ≤ 16) (hwV : ∀ i, i < n → (Lit.int .i64 (V i)).wf = true) (hwU : ∀ i, i < n → (Lit.int .i64 (U i)).wf = true) (w : World) (hl : ∀ i, i < n → w.cell? ⟨gl, i, none⟩ = some (.int .i64 (V i))) (hh : ∀ i, i < n → w.cell? ⟨gh, i, none⟩ = some (.int .i64 (U i))) (gl0 : gl < w.heap.size) (gh0 : gh < w.heap.size) :
    Calls Tryz.prog 136 #[fmt e f, .slice (some ⟨gl, 0, none⟩) n cl, .slice (some ⟨gh, 0, none⟩) n ch] w fun rv w' => ∃ B : Nat, rv = .returned (.map (some B)) ∧ w.heap.size ≤ B ∧ IvS w' B (n * n) (btB e f V U n (n * n)) ∧ Ext w w' := by
  refine (between_any e f V U gl gh n cl ch hn hwV hwU w hl hh gl0 gh0).mono ?_
  rintro rv w' ⟨rfl, hS, hx⟩
  exact ⟨_, rfl, by omega, hS, hx⟩

set_option maxHeartbeats 6400000 in
theorem widest_any (e f : Int) (V U : Nat → Int) (gl gh n cl ch : Nat) (i0 j0 : Nat) (hn : n ≤ 16) (enV : ∀ i, i < n → enB e f (V i) = true) (enU : ∀ i, i < n → enB e f (U i) = true) (hi : i0 < n) (hj : j0 < n) (hv : ivB e f (V i0) (U j0) = true) (leV : ∀ i, i < n → sfV e f (V i0) ≤ sfV e f (V i)) (leU : ∀ i, i < n → sfV e f (U i) ≤ sfV e f (U j0)) (w : World) (hl : ∀ i, i < n → w.cell? ⟨gl, i, none⟩ = some (.int .i64 (V i))) (hh : ∀ i, i < n → w.cell? ⟨gh, i, none⟩ = some (.int .i64 (U i))) (gl0 : gl < w.heap.size) (gh0 : gh < w.heap.size) : Calls Tryz.prog 94 #[fmt e f, .slice (some ⟨gl, 0, none⟩) n cl, .slice (some ⟨gh, 0, none⟩) n ch] w fun rv w' => rv = .returned (.tuple #[two (V i0) (U j0), .bool true]) ∧ Ext w w' := by
  have k1 : n * n < 1000 := by have := Nat.mul_le_mul hn hn; omega
  have hwV : ∀ i, i < n → (Lit.int .i64 (V i)).wf = true := fun i h => pat_wf (en_parts (enV i h)).2.2.1
  have hwU : ∀ i, i < n → (Lit.int .i64 (U i)).wf = true := fun i h => pat_wf (en_parts (enU i h)).2.2.1
  have hw0 : wf2 (V i0) (U j0) := ⟨hwV i0 hi, hwU j0 hj⟩
  have BE := Lib.hid (fun w hl hh gl0 gh0 => between_ex e f V U gl gh n cl ch hn hwV hwU w hl hh gl0 gh0)
  have WQ := Lib.hid (fun (W : World) (q0 q1 b : Nat) => @widest_hq e f V U n i0 j0 enV enU hi hj hv leV leU W q0 q1 b)
  have ON : RowKit.Hid (∀ l h, wf2 l h → ((btB e f V U n (n * n) l h && (l == V i0 && h == U j0)) = true ↔ l = V i0 ∧ h = U j0)) := Lib.hid (fun l h _ => by
    simp only [Bool.and_eq_true, beq_iff_eq]
    constructor
    · exact fun k => k.2
    · rintro ⟨rfl, rfl⟩
      exact ⟨bt_iff.2 ⟨hv, i0, j0, hi, hj, rfl, rfl⟩, rfl, rfl⟩)
  have HL := Lib.hid hl
  have HH := Lib.hid hh
  clear hwV hwU enV enU hi hj hv leV leU hl hh
  go_enter Tryz.func94, Tryz.ntmps94
  go_wp2_with (first
    | (go_at_call 136; refine (BE.out _ (fun i hi => ((Ext.trans (Ext.new _ _) (Ext.new _ _)).cells _ _ (by omega)).trans (HL.out i hi)) (fun i hi => ((Ext.trans (Ext.new _ _) (Ext.new _ _)).cells _ _ (by omega)).trans (HH.out i hi)) (by simp; omega) (by simp; omega)).mono ?_; rintro rv w1 ⟨B, rfl, hB0, hS, hb⟩; have hB : w.heap.size + 2 ≤ B := (by simpa using hB0); clear hB0; have g0 : w1.cell? ⟨w.heap.size, 0, none⟩ = some (.int .i64 e) := (hb.cells _ _ (by simp; omega)).trans (by simp [go_sem]); have g1 : w1.cell? ⟨w.heap.size, 1, none⟩ = some (.int .i64 f) := (hb.cells _ _ (by simp; omega)).trans (by simp [go_sem]); have r0 : w1.cell? ⟨w.heap.size + 1, 0, none⟩ = some (.int .i64 0) := (hb.cells _ _ (by simp)).trans (by simp [go_sem]); have r1 : w1.cell? ⟨w.heap.size + 1, 1, none⟩ = some (.int .i64 0) := (hb.cells _ _ (by simp)).trans (by simp [go_sem]); have y0 : w1.frozen? ⟨w.heap.size + 1, 0, none⟩ = false := (hb.frz _ _ (by simp)).trans (by simp [go_sem]); have y1 : w1.frozen? ⟨w.heap.size + 1, 1, none⟩ = false := (hb.frz _ _ (by simp)).trans (by simp [go_sem]); have hs1 := hS.lt; have hx1 := Ext.trans (Ext.trans (Ext.new _ _) (Ext.new _ _)) hb; clear hb; have hzA : w.heap.size < w1.heap.size := (by omega); have hzB : w.heap.size + 1 < w1.heap.size := (by omega))
    | (go_at_call 137; refine (keep_widest w1.heap.size w.heap.size B (n * n) _ (fun p q => p == V i0 && q == U j0) _ (hS.alloc _) (WQ.out _ w1.heap.size w.heap.size B (by simp [go_sem]) (((Ext.new _ _).cells _ _ hzA).trans g0) (((Ext.new _ _).cells _ _ hzA).trans g1) (by simp) (by simp; omega) (by omega) (by omega))).mono ?_; rintro rv w2 ⟨rfl, hS2, hg2⟩; have m0 : w2.cell? ⟨w1.heap.size, 0, none⟩ = some (.map (some B)) := (gr_cell hg2 (by simp) (by omega) _).trans (by simp [go_sem]); have s0 : w2.cell? ⟨w.heap.size + 1, 0, none⟩ = some (.int .i64 0) := (gr_cell hg2 (by simp; omega) (by omega) _).trans (((Ext.new _ _).cells _ _ hzB).trans r0); have s1 : w2.cell? ⟨w.heap.size + 1, 1, none⟩ = some (.int .i64 0) := (gr_cell hg2 (by simp; omega) (by omega) _).trans (((Ext.new _ _).cells _ _ hzB).trans r1); have x0 : w2.frozen? ⟨w.heap.size + 1, 0, none⟩ = false := (gr_frz hg2 (by simp; omega) (by omega) _).trans (((Ext.new _ _).frz _ _ hzB).trans y0); have x1 : w2.frozen? ⟨w.heap.size + 1, 1, none⟩ = false := (gr_frz hg2 (by simp; omega) (by omega) _).trans (((Ext.new _ _).frz _ _ hzB).trans y1); have hx2 := gr_ext (hx1.alloc _) hg2 (by omega); have hzC : w.heap.size + 1 < w2.heap.size := Nat.lt_of_lt_of_le hzB (Nat.le_trans (by simp) hg2.size))
    | (go_at_call 140; refine (left_one B (n * n) _ _ _ hw0 ON.out _ hS2).mono ?_; rintro rv w3 ⟨rfl, hb3⟩; have t0 := (hb3.cells _ 0 hzC).trans s0; have t1 := (hb3.cells _ 1 hzC).trans s1; have u0 := (hb3.frz _ 0 hzC).trans x0; have u1 := (hb3.frz _ 1 hzC).trans x1; have hx3 := Ext.trans hx2 hb3)
    | go_in)
  exact bodyPost_ret (v := .tuple #[two (V i0) (U j0), .bool true]) (by simp [results, Tryz.results94, go_sem, *]) rfl ⟨rfl, Ext.auK⟩
end Go.Proofs.YtfgbndjhaiigbaaGreatDoor

