/-
  Contracts of the functions that the laws reach, and the plain facts that they rest on, each under the conditions that its line names; part 25.
-/
import Derived.Test.YtdagfocpbnamfaaKgx1
import Derived.Test.YtdagfocpbnamfaaKgx2
import Derived.Test.YtdagfocpbnamfaaKgx3
import Derived.Test.YtdagfocpbnamfaaKgx4
import Derived.Test.YtdagfocpbnamfaaKgx5
import Derived.Test.YtdagfocpbnamfaaKgx6
import Derived.Test.YtdagfocpbnamfaaKgx7
import Derived.Test.YtdagfocpbnamfaaKgx8
import Derived.Test.YtdagfocpbnamfaaKgx9
import Derived.Test.YtdagfocpbnamfaaKgx10
import Derived.Test.YtdagfocpbnamfaaKgx11
import Derived.Test.YtdagfocpbnamfaaKgx12
import Derived.Test.YtdagfocpbnamfaaKgx13
import Derived.Test.YtdagfocpbnamfaaKgx14
import Derived.Test.YtdagfocpbnamfaaKgx15
import Derived.Test.YtdagfocpbnamfaaKgx16
import Derived.Test.YtdagfocpbnamfaaKgx17
import Derived.Test.YtdagfocpbnamfaaKgx18
import Derived.Test.YtdagfocpbnamfaaKgx19
import Derived.Test.YtdagfocpbnamfaaKgx20
import Derived.Test.YtdagfocpbnamfaaKgx21
import Derived.Test.YtdagfocpbnamfaaKgx22
import Derived.Test.YtdagfocpbnamfaaKgx23
import Derived.Test.YtdagfocpbnamfaaKgx24
import Derived.Test.YtdagfocpbnamfaaRows
import Derived.WalkKit
import Derived.LoopTactic
import Derived.LoopN
import Derived.Deep.OwnRows
import Derived.Deep.LoopGhost
import Derived.Laws.Bits64b
import Derived.WalkSpells
import Derived.WalkLawsBesides
import Derived.StillTactics
import Derived.Laws.Pointers
import Derived.Deep.RegionHeld3
import Derived.Deep.QuietTactic
import Derived.BigQuiet
import Derived.Outline
import Derived.Lib.Hide
import Derived.RowKit3
import Derived.Carry
import Derived.IntWalk
import Derived.Laws.OwnMore
import Derived.OwnWalk
import Derived.Deep.AppendLies
import Derived.Lib.BitFns
import Derived.Lib.TrailingZeros
namespace Go.Proofs.Ytdagfocpbnamfaa
open Go Go.RowKit
set_option linter.unusedSimpArgs false
set_option linter.unusedVariables false
set_option maxRecDepth 100000

/-- The parts behind k patterns, and whether all sums fit. -/
noncomputable def exE (e f : Int) (V : Nat → Int) : Nat → List Int × Bool
  | 0 => ([], true)
  | k + 1 => (gO e f (fun i => (exE e f V k).1.getD i 0) (V k) (exE e f V k).1.length, (exE e f V k).2 && grB e f (fun i => (exE e f V k).1.getD i 0) (V k) (exE e f V k).1.length)

noncomputable def eP (e f : Int) (V : Nat → Int) (k : Nat) : List Int := (exE e f V k).1

noncomputable def eB (e f : Int) (V : Nat → Int) (k : Nat) : Bool := (exE e f V k).2

noncomputable def ePV (e f : Int) (V : Nat → Int) (k : Nat) (i : Nat) : Int := (eP e f V k).getD i 0

theorem eP_succ (e f : Int) (V : Nat → Int) (k : Nat) : eP e f V (k + 1) = gO e f (ePV e f V k) (V k) (eP e f V k).length := rfl

theorem eB_succ (e f : Int) (V : Nat → Int) (k : Nat) : eB e f V (k + 1) = (eB e f V k && grB e f (ePV e f V k) (V k) (eP e f V k).length) := rfl

theorem eP_len (e f : Int) (V : Nat → Int) (k : Nat) : (eP e f V k).length ≤ k := by
  induction k with
  | zero => exact Nat.le_refl _
  | succ k ih =>
    rw [eP_succ]
    have := gO_len e f (V k) (ePV e f V k) (eP e f V k).length
    omega

theorem eB_mono {e f : Int} {V : Nat → Int} {k n : Nat} (h : k ≤ n) (hb : eB e f V k = false) : eB e f V n = false := by
  induction n with
  | zero =>
    have : k = 0 := by omega
    subst this; exact hb
  | succ n ih =>
    by_cases e1 : k = n + 1
    · subst e1; exact hb
    · rw [eB_succ, ih (by omega)]; rfl

theorem ePV_mem {e f : Int} {V : Nat → Int} {k i : Nat} (h : i < (eP e f V k).length) : ePV e f V k i ∈ eP e f V k := by
  unfold ePV
  simp [h]

theorem eP_told {e f : Int} {V : Nat → Int} {n : Nat} (hg : goodB e f = true) (hV : ∀ i, i < n → finB e f (V i) = true) (k : Nat) (hk : k ≤ n) (hB : eB e f V k = true) : ∀ q, q ∈ eP e f V k → Told e f q := by
  induction k with
  | zero => intro q hq; cases hq
  | succ k ih =>
    rw [eB_succ, Bool.and_eq_true] at hB
    have i1 := ih (by omega) hB.1
    rw [eP_succ]
    exact (gO_rows hg (fun i hi => (i1 _ (ePV_mem hi)).1) (hV k (by omega)) hB.2).2

/-- How the program's singles lie to the parts. -/
def EI (e f : Int) (V : Nat → Int) (k : Nat) (L : List Nat) : Prop :=
  L.length ≤ k ∧ (∀ x, x ∈ L → VBP e f x) ∧ (eB e f V k = true → L = (eP e f V k).map (fun q => cw (unitsV e f q))) ∧ (eB e f V k = false → ∃ x, x ∈ L ∧ BadW x)

theorem ei_start (e f : Int) (V : Nat → Int) : EI e f V 0 [] := ⟨Nat.le_refl _, fun x hx => (by cases hx), fun _ => rfl, fun h => (by cases h)⟩

/-- A row of singles at a place. -/
def RowL (gl : Nat) (L : List Nat) (w : World) : Prop := gl < w.heap.size ∧ ∀ i x, L[i]? = some x → w.cell? ⟨gl, i, none⟩ = some (.float .f32 x)

theorem RowL.ext {gl : Nat} {L : List Nat} {w w' : World} (h : RowL gl L w) (hx : Ext w w') : RowL gl L w' := ⟨hx.lt h.1, fun i x q => (hx.cells _ _ h.1).trans (h.2 i x q)⟩

theorem grow_step (e f : Int) (V : Nat → Int) (n k : Nat) (L : List Nat) (hg : goodB e f = true) (hn : n ≤ 900) (hV : ∀ i, i < n → finB e f (V i) = true) (hk : k < n) (hI : EI e f V k L) (gl0 cap : Nat) (w : World) (hr : RowL gl0 L w) :
    Calls Try.prog 68 #[fmt e f, .slice (some ⟨gl0, 0, none⟩) L.length cap, .float .f32 (cw (unitsV e f (V k)))] w fun rv w' => ∃ L2 m gl c, rv = .returned (.slice (some ⟨gl, 0, none⟩) m c) ∧ (m = L2.length ∧ EI e f V (k + 1) L2 ∧ RowL gl L2 w') ∧ Ext w w' := by
  obtain ⟨i1, i2, i3, i4⟩ := hI
  have hm : ∀ i, i < L.length → L.getD i 0 ∈ L := fun i hi => by simp [hi]
  refine (grow_any e f (ePV e f V k) (V k) (eB e f V k = true) (fun i => L.getD i 0) _ L.length cap (some ⟨gl0, 0, none⟩) hg (by omega) (fun i hi => i2 _ (hm i hi)) (vb_val (hV k hk)) (fun g => ⟨fun i hi => ?_, hV k hk, rfl⟩) w (fun _ => ⟨gl0, rfl, hr.1, fun i hi => hr.2 i _ (by simp [hi])⟩)).mono ?_
  · have hL := i3 g
    subst hL
    have hi2 : i < (eP e f V k).length := by simpa using hi
    refine ⟨(eP_told hg hV k (by omega) g _ (ePV_mem hi2)).1, ?_⟩
    unfold ePV
    simp [hi2]
  · rintro rv w' ⟨L2, gl, c, rfl, ⟨o1, o2, o3, o4⟩, _, hl, hc, hx⟩
    refine ⟨L2, _, gl, c, rfl, ⟨rfl, ⟨by omega, o2, fun hB => ?_, fun hB => ?_⟩, hl, hc⟩, hx⟩
    · rw [eB_succ, Bool.and_eq_true] at hB
      have hL := i3 hB.1
      subst hL
      have e1 : ((eP e f V k).map (fun q => cw (unitsV e f q))).length = (eP e f V k).length := List.length_map _
      rw [e1] at o4
      rw [o4 hB.1 hB.2, eP_succ]
      exact (gO_rows hg (fun i hi => (eP_told hg hV k (by omega) hB.1 _ (ePV_mem hi)).1) (hV k hk) hB.2).1
    · cases hB0 : eB e f V k
      · obtain ⟨x, hx1, hx2⟩ := i4 hB0
        obtain ⟨j, hj, hjx⟩ := List.mem_iff_getElem.1 hx1
        exact o3 (Or.inr (Or.inl ⟨j, hj, by simp [hj, hjx, hx2]⟩))
      · rw [eB_succ, hB0, Bool.true_and] at hB
        have hL := i3 hB0
        subst hL
        have e1 : ((eP e f V k).map (fun q => cw (unitsV e f q))).length = (eP e f V k).length := List.length_map _
        exact o3 (Or.inr (Or.inr ⟨hB0, by rw [e1]; exact hB⟩))

theorem own_hp {w : World} {p : Option Addr} {n : Nat} {V : Nat → Int} (h : OwnL w p n V) : 0 < n → ∃ gl, p = some ⟨gl, 0, none⟩ ∧ gl < w.heap.size ∧ ∀ i, i < n → w.cell? ⟨gl, i, none⟩ = some (.int .i64 (V i)) := fun hn => by
  obtain ⟨b, c, g, rfl, hr, hc, hf⟩ := h hn
  exact ⟨b, rfl, hr.lt, fun i hi => by rw [hr.cell (by omega), hf i hi]⟩

theorem exGrow_step (e f : Int) (V : Nat → Int) (n k : Nat) (hg : goodB e f = true) (hn : n ≤ 900) (hV : ∀ i, i < n → finB e f (V i) = true) (hk : k < n) (hB : eB e f V k = true) (hB2 : eB e f V (k + 1) = true) (p : Option Addr) (cap : Nat) (w : World) (ho : OwnL w p (eP e f V k).length (ePV e f V k)) :
    Calls Try.prog 65 #[fmt e f, .slice p (eP e f V k).length cap, .int .i64 (V k)] w fun rv w' => ∃ q c, rv = .returned (.tuple #[.slice q (eP e f V (k + 1)).length c, .bool true]) ∧ (OwnL w' q (eP e f V (k + 1)).length (ePV e f V (k + 1)) ∧ Past q (eP e f V (k + 1)).length (w.heap.size + 1)) ∧ Ext w w' := by
  have l1 := eP_len e f V k
  have hG : grB e f (ePV e f V k) (V k) (eP e f V k).length = true := by rw [eB_succ, hB, Bool.true_and] at hB2; exact hB2
  exact exGrow_yes e f (ePV e f V k) (V k) _ cap p hg (by omega) (fun i hi => (eP_told hg hV k (by omega) hB _ (ePV_mem hi)).1) (hV k hk) hG w (own_hp ho)

theorem exGrow_stop (e f : Int) (V : Nat → Int) (n k : Nat) (hg : goodB e f = true) (hn : n ≤ 900) (hV : ∀ i, i < n → finB e f (V i) = true) (hk : k < n) (hB : eB e f V k = true) (hB2 : eB e f V (k + 1) = false) (p : Option Addr) (cap : Nat) (w : World) (ho : OwnL w p (eP e f V k).length (ePV e f V k)) :
    Calls Try.prog 65 #[fmt e f, .slice p (eP e f V k).length cap, .int .i64 (V k)] w fun rv w' => rv = .returned (.tuple #[.slice none 0 0, .bool false]) ∧ Ext w w' := by
  have l1 := eP_len e f V k
  have hG : grB e f (ePV e f V k) (V k) (eP e f V k).length = false := by rw [eB_succ, hB, Bool.true_and] at hB2; exact hB2
  exact exGrow_no e f (ePV e f V k) (V k) _ cap p hg (by omega) (fun i hi => (eP_told hg hV k (by omega) hB _ (ePV_mem hi)).1) (hV k hk) hG w (own_hp ho)

/-- What ExpansionOf answers. -/
noncomputable def eoB (e f : Int) (V : Nat → Int) (n : Nat) : Bool := lstB e f V n && eB e f V n

noncomputable def eoM (e f : Int) (V : Nat → Int) (n : Nat) : Nat := if eoB e f V n = true then (eP e f V n).length else 0

noncomputable def eoQ (e f : Int) (V : Nat → Int) (n : Nat) : Nat → Int := ePV e f V n

theorem eoM_len (e f : Int) (V : Nat → Int) (n : Nat) : eoM e f V n ≤ 13 := by
  unfold eoM
  split
  · rename_i h
    unfold eoB at h
    rw [Bool.and_eq_true] at h
    have := (lst_iff.1 h.1).2.1
    have := eP_len e f V n
    omega
  · omega

set_option maxHeartbeats 3200000 in
theorem sExpansion_loop (e f : Int) (V : Nat → Int) (bb n : Nat) (hL : lstB e f V n = true) (w : World) (h : w.rowIs bb 3 n (fun i => .int .i64 (V i))) :
    Calls Try.prog 21 #[fmt e f, .slice (some ⟨bb, 0, none⟩) n n] w fun rv w' => (eB e f V n = true → ∃ q c, rv = .returned (.tuple #[.slice q (eP e f V n).length c, .bool true]) ∧ OwnL w' q (eP e f V n).length (ePV e f V n) ∧ Past q (eP e f V n).length w.heap.size ∧ Ext w w') ∧ (eB e f V n = false → rv = .returned (.tuple #[.slice none 0 0, .bool false]) ∧ Ext w w') := by
  have hc : ∀ i, i < n → w.cell? ((⟨bb, 0, none⟩ : Addr).add i) = some (.int .i64 (V i)) := fun i hi => by
    have := h.cell hi
    simp only [Addr.add]; split
    · rename_i h0; subst h0; simpa using this
    · simpa using this
  have EA := Lib.hid (fun w hc ha => exList_any e f V (⟨bb, 0, none⟩ : Addr) n n w hc ha)
  rw [hL] at EA
  obtain ⟨hg, h12, hV⟩ := lst_iff.1 hL
  go_enter Try.func21, Try.ntmps21
  go_wp2_with (go_at_call 63; refine (EA.out _ (fun i hi => (ext_add (a := (⟨bb, 0, none⟩ : Addr)) (w := w) (by repeat (first | exact Ext.refl _ | with_reducible assumption | apply Ext.alloc | apply Ext.drew | apply Ext.drewN | (refine Ext.setRow ?_ (by first | (simp; done) | (simp; omega) | omega) _) | (refine Ext.setCell ?_ (by first | (simp; done) | (simp; omega) | omega) _) | (refine Ext.trans ?_ (by with_reducible assumption)))) h.lt i).trans (hc i hi)) (by first | exact (row_ext h (by repeat (first | exact Ext.refl _ | with_reducible assumption | apply Ext.alloc | apply Ext.drew | apply Ext.drewN | (refine Ext.setRow ?_ (by first | (simp; done) | (simp; omega) | omega) _) | (refine Ext.setCell ?_ (by first | (simp; done) | (simp; omega) | omega) _) | (refine Ext.trans ?_ (by with_reducible assumption))))).lt | (simp; have := h.lt; omega))).mono ?_; rintro rv w1 ⟨rfl, hb⟩; have ns : w.heap.size < w1.heap.size := hb.lt (by first | with_reducible assumption | omega | (simp; done) | (simp; omega)); have n0 : w1.cell? ⟨w.heap.size, 0, none⟩ = some (.int .i64 e) := (hb.cells _ _ (by first | with_reducible assumption | omega | (simp; done) | (simp; omega))).trans (by first | with_reducible assumption | (simp; done) | (simp; with_reducible assumption) | (rw [cell_alloc_before _ _ _ _ (by omega)]; with_reducible assumption) | (simp [go_sem, *]; done)); have n1 : w1.cell? ⟨w.heap.size, 1, none⟩ = some (.int .i64 f) := (hb.cells _ _ (by first | with_reducible assumption | omega | (simp; done) | (simp; omega))).trans (by first | with_reducible assumption | (simp; done) | (simp; with_reducible assumption) | (rw [cell_alloc_before _ _ _ _ (by omega)]; with_reducible assumption) | (simp [go_sem, *]; done)); (first | (have nx := Ext.trans hx hb; clear hx) | (have nx := Ext.trans (hx.alloc _) hb; clear hx) | (have nx := Ext.trans hx.drew hb; clear hx) | have nx := hb); clear hb; try clear hs; try clear g0; try clear g1; have hx := nx; clear nx; have hs := ns; clear ns; have g0 := n0; clear n0; have g1 := n1; clear n1)
  clear EA
  have H := Lib.hid h
  clear h hc
  go_loopw [6, 17] (fun yv x wr => ∃ (k : Nat) (q : Option Addr) (c : Nat), x = .int .i64 (k : Int) ∧ k ≤ n ∧ eB e f V k = true ∧ yv = .slice q (eP e f V k).length c ∧ OwnL wr q (eP e f V k).length (ePV e f V k) ∧ Past q (eP e f V k).length w.heap.size ∧ wr.cell? ⟨w.heap.size, 0, none⟩ = some (.int .i64 e) ∧ wr.cell? ⟨w.heap.size, 1, none⟩ = some (.int .i64 f) ∧ Ext w wr ∧ w.heap.size < wr.heap.size) (fun _ x _ => n - (intOf x).toNat)
  case atStart => exact ⟨0, none, 0, rfl, by omega, rfl, rfl, own_nil _ _, past_nil _, by with_reducible assumption, by with_reducible assumption, (by repeat (first | exact Ext.refl _ | with_reducible assumption | apply Ext.alloc | apply Ext.drew | apply Ext.drewN | (refine Ext.setRow ?_ (by first | (simp; done) | (simp; omega) | omega) _) | (refine Ext.setCell ?_ (by first | (simp; done) | (simp; omega) | omega) _) | (refine Ext.trans ?_ (by with_reducible assumption)))), by with_reducible assumption⟩
  case round =>
    clear ns n0 n1 nx
    obtain ⟨k, q, c, rfl, hk, hB, rfl, ho, hp, g0, g1, hx, hs⟩ := hrel
    have HO := Lib.hid ho
    have HP := Lib.hid hp
    clear ho hp
    by_cases hlt : k < n
    · have hlt2 : k < n := hlt
      have h1 : ((k : Nat) : Int) < (n : Int) := by omega
      have h0 : (0 : Int) ≤ (k : Int) := by omega
      have h2 : ((k : Int)).toNat = k := by omega
      have u1 : IntKind.i64.wrap ((k : Int) + 1) = (k : Int) + 1 := IntWalk.i64_in _ (by omega)
      have ga : wr.cell? ⟨bb, k, none⟩ = some (.int .i64 (V k)) := (row_ext H.out hx).cell hlt2
      cases hB2 : eB e f V (k + 1)
      · have SC := Lib.hid (fun p cap w ho => exGrow_stop e f V n k hg (by omega) hV hlt hB hB2 p cap w ho)
        have HN := Lib.hid (eB_mono (k := k + 1) (n := n) (by omega) hB2)
        clear hB hB2
        generalize (eP e f V k).length = m1 at *
        generalize ePV e f V k = Q1 at *
        generalize V k = v at *
        go_wp2_with (go_at_call 65; refine (SC.out _ _ _ (HO.out.ext (by repeat (first | exact Ext.refl _ | with_reducible assumption | apply Ext.alloc | apply Ext.drew | apply Ext.drewN | (refine Ext.setRow ?_ (by first | (simp; done) | (simp; omega) | omega) _) | (refine Ext.setCell ?_ (by first | (simp; done) | (simp; omega) | omega) _) | (refine Ext.trans ?_ (by with_reducible assumption)))))).mono ?_; rintro rv w3 ⟨rfl, hb⟩; have ns : w.heap.size < w3.heap.size := hb.lt (by first | with_reducible assumption | omega | (simp; done) | (simp; omega)); have n0 : w3.cell? ⟨w.heap.size, 0, none⟩ = some (.int .i64 e) := (hb.cells _ _ (by first | with_reducible assumption | omega | (simp; done) | (simp; omega))).trans (by first | with_reducible assumption | (simp; done) | (simp; with_reducible assumption) | (rw [cell_alloc_before _ _ _ _ (by omega)]; with_reducible assumption) | (simp [go_sem, *]; done)); have n1 : w3.cell? ⟨w.heap.size, 1, none⟩ = some (.int .i64 f) := (hb.cells _ _ (by first | with_reducible assumption | omega | (simp; done) | (simp; omega))).trans (by first | with_reducible assumption | (simp; done) | (simp; with_reducible assumption) | (rw [cell_alloc_before _ _ _ _ (by omega)]; with_reducible assumption) | (simp [go_sem, *]; done)); (first | (have nx := Ext.trans hx hb; clear hx) | (have nx := Ext.trans (hx.alloc _) hb; clear hx) | (have nx := Ext.trans hx.drew hb; clear hx) | have nx := hb); clear hb; try clear hs; try clear g0; try clear g1; have hx := nx; clear nx; have hs := ns; clear ns; have g0 := n0; clear n0; have g1 := n1; clear n1)
        go_ret2
        exact ⟨fun h => absurd h (by rw [HN.out]; decide), fun _ => ⟨rfl, (by repeat (first | exact Ext.refl _ | with_reducible assumption | apply Ext.alloc | apply Ext.drew | apply Ext.drewN | (refine Ext.setRow ?_ (by first | (simp; done) | (simp; omega) | omega) _) | (refine Ext.setCell ?_ (by first | (simp; done) | (simp; omega) | omega) _) | (refine Ext.trans ?_ (by with_reducible assumption))))⟩⟩
      · have SC := Lib.hid (fun p cap w ho => exGrow_step e f V n k hg (by omega) hV hlt hB hB2 p cap w ho)
        have HB := Lib.hid hB2
        clear hB hB2
        generalize hm2 : (eP e f V (k + 1)).length = m2 at *
        generalize hQ2 : ePV e f V (k + 1) = Q2 at *
        have HM := Lib.hid hm2
        have HQQ := Lib.hid hQ2
        clear hm2 hQ2
        generalize (eP e f V k).length = m1 at *
        generalize ePV e f V k = Q1 at *
        generalize V k = v at *
        go_wp2_with (go_at_call 65; refine (SC.out _ _ _ (HO.out.ext (by repeat (first | exact Ext.refl _ | with_reducible assumption | apply Ext.alloc | apply Ext.drew | apply Ext.drewN | (refine Ext.setRow ?_ (by first | (simp; done) | (simp; omega) | omega) _) | (refine Ext.setCell ?_ (by first | (simp; done) | (simp; omega) | omega) _) | (refine Ext.trans ?_ (by with_reducible assumption)))))).mono ?_; rintro rv w3 ⟨q2, c2, rfl, hq, hb⟩; have HQ := Lib.hid hq.1; have HQ2 := Lib.hid (hq.2.le (B2 := w.heap.size) (by omega)); clear hq; have ns : w.heap.size < w3.heap.size := hb.lt (by first | with_reducible assumption | omega | (simp; done) | (simp; omega)); have n0 : w3.cell? ⟨w.heap.size, 0, none⟩ = some (.int .i64 e) := (hb.cells _ _ (by first | with_reducible assumption | omega | (simp; done) | (simp; omega))).trans (by first | with_reducible assumption | (simp; done) | (simp; with_reducible assumption) | (rw [cell_alloc_before _ _ _ _ (by omega)]; with_reducible assumption) | (simp [go_sem, *]; done)); have n1 : w3.cell? ⟨w.heap.size, 1, none⟩ = some (.int .i64 f) := (hb.cells _ _ (by first | with_reducible assumption | omega | (simp; done) | (simp; omega))).trans (by first | with_reducible assumption | (simp; done) | (simp; with_reducible assumption) | (rw [cell_alloc_before _ _ _ _ (by omega)]; with_reducible assumption) | (simp [go_sem, *]; done)); (first | (have nx := Ext.trans hx hb; clear hx) | (have nx := Ext.trans (hx.alloc _) hb; clear hx) | (have nx := Ext.trans hx.drew hb; clear hx) | have nx := hb); clear hb; try clear hs; try clear g0; try clear g1; have hx := nx; clear nx; have hs := ns; clear ns; have g0 := n0; clear n0; have g1 := n1; clear n1)
        go_roundw
        case rel => exact ⟨k + 1, q2, c2, by simp, by omega, HB.out, by rw [HM.out], by rw [HM.out, HQQ.out]; exact HQ.out, by rw [HM.out]; exact HQ2.out, by with_reducible assumption, by with_reducible assumption, by with_reducible assumption, by with_reducible assumption⟩
        case measure => simp [intOf]; omega
    · have h1 : ¬ ((k : Nat) : Int) < (n : Int) := by omega
      have hkn : k = n := by omega
      subst hkn
      have HB := Lib.hid hB
      clear hB
      go_wp2_with fail
      go_ret2
      exact ⟨fun _ => ⟨q, ⟨c, rfl⟩, HO.out, HP.out, hx⟩, fun h => absurd h (by rw [HB.out]; decide)⟩

theorem sExpansionOf_all (e f : Int) (V : Nat → Int) (bb n : Nat) (w : World) (h : w.rowIs bb 3 n (fun i => .int .i64 (V i))) : Calls Try.prog 21 #[fmt e f, .slice (some ⟨bb, 0, none⟩) n n] w fun rv w' => ∃ q c, rv = .returned (.tuple #[.slice q (eoM e f V n) c, .bool (eoB e f V n)]) ∧ OwnL w' q (eoM e f V n) (eoQ e f V n) ∧ Past q (eoM e f V n) w.heap.size ∧ Ext w w' := by
  unfold eoM eoQ
  cases hL : lstB e f V n
  · have hE : eoB e f V n = false := by unfold eoB; rw [hL]; rfl
    rw [hE, if_neg (by decide)]
    have hc : ∀ i, i < n → w.cell? ((⟨bb, 0, none⟩ : Addr).add i) = some (.int .i64 (V i)) := fun i hi => by
      have := h.cell hi
      simp only [Addr.add]; split
      · rename_i h0; subst h0; simpa using this
      · simpa using this
    have EA := Lib.hid (fun w hc ha => exList_any e f V (⟨bb, 0, none⟩ : Addr) n n w hc ha)
    rw [hL] at EA
    clear hL
    go_enter Try.func21, Try.ntmps21
    go_wp2_with (go_at_call 63; refine (EA.out _ (fun i hi => (ext_add (a := (⟨bb, 0, none⟩ : Addr)) (w := w) (by repeat (first | exact Ext.refl _ | with_reducible assumption | apply Ext.alloc | apply Ext.drew | apply Ext.drewN | (refine Ext.setRow ?_ (by first | (simp; done) | (simp; omega) | omega) _) | (refine Ext.setCell ?_ (by first | (simp; done) | (simp; omega) | omega) _) | (refine Ext.trans ?_ (by with_reducible assumption)))) h.lt i).trans (hc i hi)) (by first | exact (row_ext h (by repeat (first | exact Ext.refl _ | with_reducible assumption | apply Ext.alloc | apply Ext.drew | apply Ext.drewN | (refine Ext.setRow ?_ (by first | (simp; done) | (simp; omega) | omega) _) | (refine Ext.setCell ?_ (by first | (simp; done) | (simp; omega) | omega) _) | (refine Ext.trans ?_ (by with_reducible assumption))))).lt | (simp; have := h.lt; omega))).mono ?_; rintro rv w1 ⟨rfl, hb⟩; have ns : w.heap.size < w1.heap.size := hb.lt (by first | with_reducible assumption | omega | (simp; done) | (simp; omega)); have n0 : w1.cell? ⟨w.heap.size, 0, none⟩ = some (.int .i64 e) := (hb.cells _ _ (by first | with_reducible assumption | omega | (simp; done) | (simp; omega))).trans (by first | with_reducible assumption | (simp; done) | (simp; with_reducible assumption) | (rw [cell_alloc_before _ _ _ _ (by omega)]; with_reducible assumption) | (simp [go_sem, *]; done)); have n1 : w1.cell? ⟨w.heap.size, 1, none⟩ = some (.int .i64 f) := (hb.cells _ _ (by first | with_reducible assumption | omega | (simp; done) | (simp; omega))).trans (by first | with_reducible assumption | (simp; done) | (simp; with_reducible assumption) | (rw [cell_alloc_before _ _ _ _ (by omega)]; with_reducible assumption) | (simp [go_sem, *]; done)); (first | (have nx := Ext.trans hx hb; clear hx) | (have nx := Ext.trans (hx.alloc _) hb; clear hx) | (have nx := Ext.trans hx.drew hb; clear hx) | have nx := hb); clear hb; try clear hs; try clear g0; try clear g1; have hx := nx; clear nx; have hs := ns; clear ns; have g0 := n0; clear n0; have g1 := n1; clear n1)
    go_ret2
    exact ⟨none, 0, rfl, own_nil _ _, past_nil _, (by repeat (first | exact Ext.refl _ | with_reducible assumption | apply Ext.alloc | apply Ext.drew | apply Ext.drewN | (refine Ext.setRow ?_ (by first | (simp; done) | (simp; omega) | omega) _) | (refine Ext.setCell ?_ (by first | (simp; done) | (simp; omega) | omega) _) | (refine Ext.trans ?_ (by with_reducible assumption))))⟩
  · refine (sExpansion_loop e f V bb n hL w h).mono ?_
    intro rv w' q
    cases hB : eB e f V n
    · have hE : eoB e f V n = false := by unfold eoB; rw [hL, hB]; rfl
      rw [hE, if_neg (by decide)]
      obtain ⟨rfl, hx⟩ := q.2 hB
      exact ⟨none, 0, rfl, own_nil _ _, past_nil _, hx⟩
    · have hE : eoB e f V n = true := by unfold eoB; rw [hL, hB]; rfl
      rw [hE, if_pos rfl]
      exact q.1 hB

theorem pa_exp (e f : Int) (V : Nat → Int) (n : Nat) (hg : goodB e f = true) (hn : n ≤ 900) (hV : ∀ i, i < n → finB e f (V i) = true) (hB : eB e f V n = true) (L : List Nat) (hI : EI e f V n L) (gl cap : Nat) (w : World) (hr : RowL gl L w) :
    Calls Try.prog 67 #[fmt e f, .slice (some ⟨gl, 0, none⟩) L.length cap] w fun rv w' => ∃ q c, rv = .returned (.tuple #[.slice q (eP e f V n).length c, .bool true]) ∧ (OwnL w' q (eP e f V n).length (ePV e f V n) ∧ Past q (eP e f V n).length (w.heap.size + 1)) ∧ Ext w w' := by
  have hl := eP_len e f V n
  have hL := hI.2.2.1 hB
  subst hL
  rw [List.length_map]
  refine (pa_told e f (eP e f V n) (by omega) (eP_told hg hV n (Nat.le_refl _) hB) gl cap w hr.1 hr.2).mono ?_
  rintro rv w' ⟨v, rfl, ho, hx⟩
  rw [← patL_of] at ho
  obtain ⟨q, c, rfl, h1, h2⟩ := own_form ho
  exact ⟨q, c, rfl, ⟨h1, h2⟩, hx⟩

theorem pa_exn (e f : Int) (V : Nat → Int) (n : Nat) (hg : goodB e f = true) (hn : n ≤ 900) (hB : eB e f V n = false) (L : List Nat) (hI : EI e f V n L) (gl cap : Nat) (w : World) (hr : RowL gl L w) :
    Calls Try.prog 67 #[fmt e f, .slice (some ⟨gl, 0, none⟩) L.length cap] w fun rv w' => rv = .returned (.tuple #[.slice none 0 0, .bool false]) ∧ Ext w w' :=
  pa_bad e f hg L (by have := hI.1; omega) hI.2.1 (hI.2.2.2 hB) gl cap w hr.1 hr.2

set_option maxHeartbeats 3200000 in
theorem iExpansion_loop (e f : Int) (V : Nat → Int) (bb n : Nat) (hL : lstB e f V n = true) (w : World) (h : w.rowIs bb 3 n (fun i => .int .i64 (V i))) :
    Calls Try.prog 22 #[fmt e f, .slice (some ⟨bb, 0, none⟩) n n] w fun rv w' => (eB e f V n = true → ∃ q c, rv = .returned (.tuple #[.slice q (eP e f V n).length c, .bool true]) ∧ OwnL w' q (eP e f V n).length (ePV e f V n) ∧ Past q (eP e f V n).length w.heap.size ∧ Ext w w') ∧ (eB e f V n = false → rv = .returned (.tuple #[.slice none 0 0, .bool false]) ∧ Ext w w') := by
  have hc : ∀ i, i < n → w.cell? ((⟨bb, 0, none⟩ : Addr).add i) = some (.int .i64 (V i)) := fun i hi => by
    have := h.cell hi
    simp only [Addr.add]; split
    · rename_i h0; subst h0; simpa using this
    · simpa using this
  obtain ⟨hg, h12, hV⟩ := lst_iff.1 hL
  go_enter Try.func22, Try.ntmps22
  go_wp2_with (go_at_call 66; (with_reducible refine (valuesOf_list e f V (⟨bb, 0, none⟩ : Addr) n n hL _ (fun i hi => (ext_add (a := (⟨bb, 0, none⟩ : Addr)) (w := w) (by repeat (first | exact Ext.refl _ | with_reducible assumption | apply Ext.alloc | apply Ext.drew | apply Ext.drewN | (refine Ext.setRow ?_ (by first | (simp; done) | (simp; omega) | omega) _) | (refine Ext.setCell ?_ (by first | (simp; done) | (simp; omega) | omega) _) | (refine Ext.trans ?_ (by with_reducible assumption)))) h.lt i).trans (hc i hi)) (by first | exact (row_ext h (by repeat (first | exact Ext.refl _ | with_reducible assumption | apply Ext.alloc | apply Ext.drew | apply Ext.drewN | (refine Ext.setRow ?_ (by first | (simp; done) | (simp; omega) | omega) _) | (refine Ext.setCell ?_ (by first | (simp; done) | (simp; omega) | omega) _) | (refine Ext.trans ?_ (by with_reducible assumption))))).lt | (simp; have := h.lt; omega))).mono ?_); rintro rv w1 ⟨p, cp, rfl, hp, hb⟩; have HP : RowKit.Hid (HPV e f V n p w1) := Lib.hid (fun hn => by obtain ⟨gl, e1, e2, e3, e4⟩ := hp hn; exact ⟨gl, e1, e3, e4⟩); clear hp; have hs : w.heap.size < w1.heap.size := hb.lt (by first | (simp; done) | (simp; omega)); have g0 : w1.cell? ⟨w.heap.size, 0, none⟩ = some (.int .i64 e) := (hb.cells _ _ (by first | (simp; done) | (simp; omega))).trans (by first | (simp; done) | (simp [go_sem, *]; done)); have g1 : w1.cell? ⟨w.heap.size, 1, none⟩ = some (.int .i64 f) := (hb.cells _ _ (by first | (simp; done) | (simp; omega))).trans (by first | (simp; done) | (simp [go_sem, *]; done)); have hx : Ext w w1 := Ext.trans (by repeat (first | exact Ext.refl _ | with_reducible assumption | apply Ext.alloc | apply Ext.drew | apply Ext.drewN | (refine Ext.setRow ?_ (by first | (simp; done) | (simp; omega) | omega) _) | (refine Ext.setCell ?_ (by first | (simp; done) | (simp; omega) | omega) _) | (refine Ext.trans ?_ (by with_reducible assumption)))) hb; clear hb)
  clear h hc
  go_loopw [8, 22] (fun yv x wr => ∃ (k : Nat) (L : List Nat) (gl c : Nat), x = .int .i64 (k : Int) ∧ k ≤ n ∧ yv = .slice (some ⟨gl, 0, none⟩) L.length c ∧ EI e f V k L ∧ gl < wr.heap.size ∧ RowL gl L wr ∧ wr.cell? ⟨w.heap.size, 0, none⟩ = some (.int .i64 e) ∧ wr.cell? ⟨w.heap.size, 1, none⟩ = some (.int .i64 f) ∧ Ext w1 wr ∧ Ext w wr ∧ w.heap.size < wr.heap.size) (fun _ x _ => n - (intOf x).toNat)
  case atStart => exact ⟨0, [], w1.heap.size, 0, rfl, by omega, rfl, ei_start e f V, by simp, ⟨by simp, fun i x q => by cases q⟩, (cell_alloc_before _ _ _ _ (by omega)).trans (by with_reducible assumption), (cell_alloc_before _ _ _ _ (by omega)).trans (by with_reducible assumption), (Ext.refl _).alloc _, (by repeat (first | exact Ext.refl _ | with_reducible assumption | apply Ext.alloc | apply Ext.drew | apply Ext.drewN | (refine Ext.setRow ?_ (by first | (simp; done) | (simp; omega) | omega) _) | (refine Ext.setCell ?_ (by first | (simp; done) | (simp; omega) | omega) _) | (refine Ext.trans ?_ (by with_reducible assumption)))), by simp; omega⟩
  case round =>
    have x0 := hx
    clear g0 g1 hx hs
    obtain ⟨k, L, gl, c, rfl, hk, rfl, hI, hgl, hr, g0, g1, hx1, hx, hs⟩ := hrel
    have HR := Lib.hid hr
    clear hr
    by_cases hlt : k < n
    · have hlt2 : k < n := hlt
      obtain ⟨gv, rfl, hgv, hcv⟩ := hpv_cw HP.out (by omega)
      have h1 : ((k : Nat) : Int) < (n : Int) := by omega
      have h0 : (0 : Int) ≤ (k : Int) := by omega
      have h2 : ((k : Int)).toNat = k := by omega
      have u1 : IntKind.i64.wrap ((k : Int) + 1) = (k : Int) + 1 := IntWalk.i64_in _ (by omega)
      have ga : wr.cell? ⟨gv, k, none⟩ = some (.float .f32 (cw (unitsV e f (V k)))) := (hx1.cells _ _ hgv).trans (hcv k hlt2)
      have SC := Lib.hid (fun gl cap w hr => grow_step e f V n k L hg (by omega) hV hlt hI gl cap w hr)
      have HLN := Lib.hid (show L.length ≤ k from hI.1)
      clear hI
      generalize cw (unitsV e f (V k)) = xk at *
      generalize hln : L.length = ln at *
      clear hln
      go_wp2_with (go_at_call 68; refine (SC.out _ _ _ (HR.out.ext (by repeat (first | exact Ext.refl _ | with_reducible assumption | apply Ext.alloc | apply Ext.drew | apply Ext.drewN | (refine Ext.setRow ?_ (by first | (simp; done) | (simp; omega) | omega) _) | (refine Ext.setCell ?_ (by first | (simp; done) | (simp; omega) | omega) _) | (refine Ext.trans ?_ (by with_reducible assumption)))))).mono ?_; rintro rv w3 ⟨L2, m2, gl2, c2, rfl, hq, hb⟩; have HI2 := Lib.hid hq.2.1; have HM2 := Lib.hid hq.1; have HR2 := Lib.hid hq.2.2; have HX2 : RowKit.Hid (Ext w1 w3) := Lib.hid (Ext.trans (by repeat (first | exact Ext.refl _ | with_reducible assumption | apply Ext.alloc | apply Ext.drew | apply Ext.drewN | (refine Ext.setRow ?_ (by first | (simp; done) | (simp; omega) | omega) _) | (refine Ext.setCell ?_ (by first | (simp; done) | (simp; omega) | omega) _) | (refine Ext.trans ?_ (by with_reducible assumption)))) hb); clear hq; have ns : w.heap.size < w3.heap.size := hb.lt (by first | with_reducible assumption | omega | (simp; done) | (simp; omega)); have n0 : w3.cell? ⟨w.heap.size, 0, none⟩ = some (.int .i64 e) := (hb.cells _ _ (by first | with_reducible assumption | omega | (simp; done) | (simp; omega))).trans (by first | with_reducible assumption | (simp; done) | (simp; with_reducible assumption) | (rw [cell_alloc_before _ _ _ _ (by omega)]; with_reducible assumption) | (simp [go_sem, *]; done)); have n1 : w3.cell? ⟨w.heap.size, 1, none⟩ = some (.int .i64 f) := (hb.cells _ _ (by first | with_reducible assumption | omega | (simp; done) | (simp; omega))).trans (by first | with_reducible assumption | (simp; done) | (simp; with_reducible assumption) | (rw [cell_alloc_before _ _ _ _ (by omega)]; with_reducible assumption) | (simp [go_sem, *]; done)); (first | (have nx := Ext.trans hx hb; clear hx) | (have nx := Ext.trans (hx.alloc _) hb; clear hx) | (have nx := Ext.trans hx.drew hb; clear hx) | have nx := hb); clear hb; try clear hs; try clear g0; try clear g1; have hx := nx; clear nx; have hs := ns; clear ns; have g0 := n0; clear n0; have g1 := n1; clear n1)
      go_roundw
      case rel => exact ⟨k + 1, L2, gl2, c2, by simp, by omega, by rw [HM2.out], HI2.out, HR2.out.1, HR2.out, by with_reducible assumption, by with_reducible assumption, HX2.out, by with_reducible assumption, by with_reducible assumption⟩
      case measure => simp [intOf]; omega
    · have h1 : ¬ ((k : Nat) : Int) < (n : Int) := by omega
      have hkn : k = n := by omega
      subst hkn
      cases hB : eB e f V k
      · have PC := Lib.hid (fun gl cap w hr => pa_exn e f V k hg (by omega) hB L hI gl cap w hr)
        have HB := Lib.hid hB
        clear hB hI
        generalize hln : L.length = ln at *
        clear hln
        go_wp2_with (go_at_call 67; refine (PC.out _ _ _ (HR.out.ext (by repeat (first | exact Ext.refl _ | with_reducible assumption | apply Ext.alloc | apply Ext.drew | apply Ext.drewN | (refine Ext.setRow ?_ (by first | (simp; done) | (simp; omega) | omega) _) | (refine Ext.setCell ?_ (by first | (simp; done) | (simp; omega) | omega) _) | (refine Ext.trans ?_ (by with_reducible assumption)))))).mono ?_; rintro rv w4 ⟨rfl, hb⟩; have ns : w.heap.size < w4.heap.size := hb.lt (by first | with_reducible assumption | omega | (simp; done) | (simp; omega)); have n0 : w4.cell? ⟨w.heap.size, 0, none⟩ = some (.int .i64 e) := (hb.cells _ _ (by first | with_reducible assumption | omega | (simp; done) | (simp; omega))).trans (by first | with_reducible assumption | (simp; done) | (simp; with_reducible assumption) | (rw [cell_alloc_before _ _ _ _ (by omega)]; with_reducible assumption) | (simp [go_sem, *]; done)); have n1 : w4.cell? ⟨w.heap.size, 1, none⟩ = some (.int .i64 f) := (hb.cells _ _ (by first | with_reducible assumption | omega | (simp; done) | (simp; omega))).trans (by first | with_reducible assumption | (simp; done) | (simp; with_reducible assumption) | (rw [cell_alloc_before _ _ _ _ (by omega)]; with_reducible assumption) | (simp [go_sem, *]; done)); (first | (have nx := Ext.trans hx hb; clear hx) | (have nx := Ext.trans (hx.alloc _) hb; clear hx) | (have nx := Ext.trans hx.drew hb; clear hx) | have nx := hb); clear hb; try clear hs; try clear g0; try clear g1; have hx := nx; clear nx; have hs := ns; clear ns; have g0 := n0; clear n0; have g1 := n1; clear n1)
        go_ret2
        exact ⟨fun h => absurd h (by rw [HB.out]; decide), fun _ => ⟨rfl, (by repeat (first | exact Ext.refl _ | with_reducible assumption | apply Ext.alloc | apply Ext.drew | apply Ext.drewN | (refine Ext.setRow ?_ (by first | (simp; done) | (simp; omega) | omega) _) | (refine Ext.setCell ?_ (by first | (simp; done) | (simp; omega) | omega) _) | (refine Ext.trans ?_ (by with_reducible assumption))))⟩⟩
      · have PC := Lib.hid (fun gl cap w hr => pa_exp e f V k hg (by omega) hV hB L hI gl cap w hr)
        have HB := Lib.hid hB
        clear hB hI
        generalize hln : L.length = ln at *
        clear hln
        go_wp2_with (go_at_call 67; refine (PC.out _ _ _ (HR.out.ext (by repeat (first | exact Ext.refl _ | with_reducible assumption | apply Ext.alloc | apply Ext.drew | apply Ext.drewN | (refine Ext.setRow ?_ (by first | (simp; done) | (simp; omega) | omega) _) | (refine Ext.setCell ?_ (by first | (simp; done) | (simp; omega) | omega) _) | (refine Ext.trans ?_ (by with_reducible assumption)))))).mono ?_; rintro rv w4 ⟨q, c, rfl, hq, hb⟩; have HQ := Lib.hid hq.1; have HQ2 := Lib.hid (hq.2.le (B2 := w.heap.size) (by omega)); clear hq; have ns : w.heap.size < w4.heap.size := hb.lt (by first | with_reducible assumption | omega | (simp; done) | (simp; omega)); have n0 : w4.cell? ⟨w.heap.size, 0, none⟩ = some (.int .i64 e) := (hb.cells _ _ (by first | with_reducible assumption | omega | (simp; done) | (simp; omega))).trans (by first | with_reducible assumption | (simp; done) | (simp; with_reducible assumption) | (rw [cell_alloc_before _ _ _ _ (by omega)]; with_reducible assumption) | (simp [go_sem, *]; done)); have n1 : w4.cell? ⟨w.heap.size, 1, none⟩ = some (.int .i64 f) := (hb.cells _ _ (by first | with_reducible assumption | omega | (simp; done) | (simp; omega))).trans (by first | with_reducible assumption | (simp; done) | (simp; with_reducible assumption) | (rw [cell_alloc_before _ _ _ _ (by omega)]; with_reducible assumption) | (simp [go_sem, *]; done)); (first | (have nx := Ext.trans hx hb; clear hx) | (have nx := Ext.trans (hx.alloc _) hb; clear hx) | (have nx := Ext.trans hx.drew hb; clear hx) | have nx := hb); clear hb; try clear hs; try clear g0; try clear g1; have hx := nx; clear nx; have hs := ns; clear ns; have g0 := n0; clear n0; have g1 := n1; clear n1)
        go_ret2
        first | exact ⟨fun _ => ⟨_, rfl, HQ.out, HQ2.out, (by repeat (first | exact Ext.refl _ | with_reducible assumption | apply Ext.alloc | apply Ext.drew | apply Ext.drewN | (refine Ext.setRow ?_ (by first | (simp; done) | (simp; omega) | omega) _) | (refine Ext.setCell ?_ (by first | (simp; done) | (simp; omega) | omega) _) | (refine Ext.trans ?_ (by with_reducible assumption))))⟩, fun h => absurd h (by rw [HB.out]; decide)⟩ | exact ⟨fun _ => ⟨_, _, rfl, HQ.out, HQ2.out, (by repeat (first | exact Ext.refl _ | with_reducible assumption | apply Ext.alloc | apply Ext.drew | apply Ext.drewN | (refine Ext.setRow ?_ (by first | (simp; done) | (simp; omega) | omega) _) | (refine Ext.setCell ?_ (by first | (simp; done) | (simp; omega) | omega) _) | (refine Ext.trans ?_ (by with_reducible assumption))))⟩, fun h => absurd h (by rw [HB.out]; decide)⟩

theorem iExpansionOf_all (e f : Int) (V : Nat → Int) (bb n : Nat) (w : World) (h : w.rowIs bb 3 n (fun i => .int .i64 (V i))) : Calls Try.prog 22 #[fmt e f, .slice (some ⟨bb, 0, none⟩) n n] w fun rv w' => ∃ q c, rv = .returned (.tuple #[.slice q (eoM e f V n) c, .bool (eoB e f V n)]) ∧ OwnL w' q (eoM e f V n) (eoQ e f V n) ∧ Past q (eoM e f V n) w.heap.size ∧ Ext w w' := by
  unfold eoM eoQ
  cases hL : lstB e f V n
  · have hE : eoB e f V n = false := by unfold eoB; rw [hL]; rfl
    rw [hE, if_neg (by decide)]
    have hc : ∀ i, i < n → w.cell? ((⟨bb, 0, none⟩ : Addr).add i) = some (.int .i64 (V i)) := fun i hi => by
      have := h.cell hi
      simp only [Addr.add]; split
      · rename_i h0; subst h0; simpa using this
      · simpa using this
    go_enter Try.func22, Try.ntmps22
    go_wp2_with (go_at_call 66; (with_reducible refine (valuesOf_list_no e f V (⟨bb, 0, none⟩ : Addr) n n hL _ (fun i hi => (ext_add (a := (⟨bb, 0, none⟩ : Addr)) (w := w) (by repeat (first | exact Ext.refl _ | with_reducible assumption | apply Ext.alloc | apply Ext.drew | apply Ext.drewN | (refine Ext.setRow ?_ (by first | (simp; done) | (simp; omega) | omega) _) | (refine Ext.setCell ?_ (by first | (simp; done) | (simp; omega) | omega) _) | (refine Ext.trans ?_ (by with_reducible assumption)))) h.lt i).trans (hc i hi)) (by first | exact (row_ext h (by repeat (first | exact Ext.refl _ | with_reducible assumption | apply Ext.alloc | apply Ext.drew | apply Ext.drewN | (refine Ext.setRow ?_ (by first | (simp; done) | (simp; omega) | omega) _) | (refine Ext.setCell ?_ (by first | (simp; done) | (simp; omega) | omega) _) | (refine Ext.trans ?_ (by with_reducible assumption))))).lt | (simp; have := h.lt; omega))).mono ?_); rintro rv w1 ⟨rfl, hb⟩; have hx : Ext w w1 := Ext.trans (by repeat (first | exact Ext.refl _ | with_reducible assumption | apply Ext.alloc | apply Ext.drew | apply Ext.drewN | (refine Ext.setRow ?_ (by first | (simp; done) | (simp; omega) | omega) _) | (refine Ext.setCell ?_ (by first | (simp; done) | (simp; omega) | omega) _) | (refine Ext.trans ?_ (by with_reducible assumption)))) hb; clear hb)
    go_ret2
    exact ⟨none, 0, rfl, own_nil _ _, past_nil _, hx⟩
  · refine (iExpansion_loop e f V bb n hL w h).mono ?_
    intro rv w' q
    cases hB : eB e f V n
    · have hE : eoB e f V n = false := by unfold eoB; rw [hL, hB]; rfl
      rw [hE, if_neg (by decide)]
      obtain ⟨rfl, hx⟩ := q.2 hB
      exact ⟨none, 0, rfl, own_nil _ _, past_nil _, hx⟩
    · have hE : eoB e f V n = true := by unfold eoB; rw [hL, hB]; rfl
      rw [hE, if_pos rfl]
      exact q.1 hB
end Go.Proofs.Ytdagfocpbnamfaa

namespace Go.Proofs.Ytdagfocpbnamfaa
open Go Go.RowKit
set_option linter.unusedSimpArgs false
set_option linter.unusedVariables false
set_option maxRecDepth 100000

set_option maxHeartbeats 6400000 in
theorem wExpansionOf (e f : Int) (p : Option Addr) (n cap : Nat) (V : Nat → Int) (w : World) (hold : HoldsL w p n V) : Calls Try.prog 4 #[fmt e f, .slice p n cap] w fun rv w' => rv = .returned (.bool true) ∧ Ext w w' := by
  by_cases hn : n ≤ 1048576
  · have h12 : ¬ (1048576 : Int) < (n : Int) := by omega
    have SA := Lib.hid (fun bb w h => sExpansionOf_all e f V bb n w h)
    have IA := Lib.hid (fun bb w h => iExpansionOf_all e f V bb n w h)
    have hm : eoM e f V n ≤ 1048576 := by have := eoM_len e f V n; omega
    generalize eoM e f V n = m at *
    generalize eoQ e f V n = Q at *
    generalize eoB e f V n = B at *
    have EQM := Lib.hid (fun p q c1 c2 w hp hq => eqIntS_own p q m c1 c2 Q hm w hp hq)
    have EQN := Lib.hid (fun p q c1 c2 w hp hq => eqIntS_own p q n c1 c2 V hn w hp hq)
    have MKM := Lib.hid (fun p c w hp => markIntS_own p m c Q hm w hp)
    have MKN := Lib.hid (fun p c w hp => markIntS_own p n c V hn w hp)
    have HLM := Lib.hid (fun p c w hp => heldIntS_own p m c hm w hp)
    obtain ⟨M, hM, hM0⟩ : ∃ M : Int, M = 1 + (m : Int) ∧ ¬ M < 0 := ⟨_, rfl, by omega⟩
    obtain ⟨N, hN, hN0⟩ : ∃ N : Int, N = 1 + (n : Int) ∧ ¬ N < 0 := ⟨_, rfl, by omega⟩
    rw [← hM] at MKM HLM
    rw [← hN] at MKN
    clear hM hN hm
    cases B
    all_goals
      go_enter Try.func4, Try.ntmps4
      go_wp2_with fail
      go_at_call 15
      refine (toFormat_any e f _).mono ?_
      rintro rv w1 ⟨rfl, hb⟩
      have s1 : w.heap.size < w1.heap.size := hb.lt (by simp)
      have a1 : w1.cell? ⟨w.heap.size, 0, none⟩ = some (.int .i64 e) := (hb.cells _ _ (by simp)).trans (by simp)
      have b1 : w1.cell? ⟨w.heap.size, 1, none⟩ = some (.int .i64 f) := (hb.cells _ _ (by simp)).trans (by simp [go_sem])
      have x1 : Ext w w1 := Ext.trans (Ext.new _ _) hb
      clear hb
      go_wp2_with fail
      go_at_call 16
      refine (toIntS_any p n cap V hn _ (hold.ext x1)).mono ?_
      rintro rv w2 ⟨t2, rfl, _, r2, hb⟩
      have s2 : w.heap.size < w2.heap.size := hb.lt s1
      have a2 : w2.cell? ⟨w.heap.size, 0, none⟩ = some (.int .i64 e) := (hb.cells _ _ s1).trans a1
      have b2 : w2.cell? ⟨w.heap.size, 1, none⟩ = some (.int .i64 f) := (hb.cells _ _ s1).trans b1
      have x2 : Ext w w2 := Ext.trans x1 hb
      clear hb a1 b1 x1 
      go_wp2_with fail
      go_at_call 21
      refine (SA.out _ _ r2).mono ?_
      rintro rv w3 ⟨pS, cS, rfl, S3, _, hb⟩
      have s3 : w.heap.size < w3.heap.size := hb.lt s2
      have a3 : w3.cell? ⟨w.heap.size, 0, none⟩ = some (.int .i64 e) := (hb.cells _ _ s2).trans a2
      have b3 : w3.cell? ⟨w.heap.size, 1, none⟩ = some (.int .i64 f) := (hb.cells _ _ s2).trans b2
      have x3 : Ext w w3 := Ext.trans x2 hb
      clear r2
      clear hb a2 b2 x2 
      go_wp2_with fail
      go_at_call 16
      refine (toIntS_any p n cap V hn _ (hold.ext x3)).mono ?_
      rintro rv w4 ⟨t4, rfl, q4, r4, hb⟩
      have s4 : w.heap.size < w4.heap.size := hb.lt s3
      have a4 : w4.cell? ⟨w.heap.size, 0, none⟩ = some (.int .i64 e) := (hb.cells _ _ s3).trans a3
      have b4 : w4.cell? ⟨w.heap.size, 1, none⟩ = some (.int .i64 f) := (hb.cells _ _ s3).trans b3
      have x4 : Ext w w4 := Ext.trans x3 hb
      have S4 := S3.ext hb
      have S0 := S3
      have X4 := row_own r4
      clear hb a3 b3 x3 S3
      go_wp2_with fail
      go_at_call 15
      refine (toFormat_any e f _).mono ?_
      rintro rv w5 ⟨rfl, hb⟩
      have s5 : w.heap.size < w5.heap.size := hb.lt s4
      have a5 : w5.cell? ⟨w.heap.size, 0, none⟩ = some (.int .i64 e) := (hb.cells _ _ s4).trans a4
      have b5 : w5.cell? ⟨w.heap.size, 1, none⟩ = some (.int .i64 f) := (hb.cells _ _ s4).trans b4
      have x5 : Ext w w5 := Ext.trans x4 hb
      have S5 := S4.ext hb
      have X5 := X4.ext hb
      have r5 := row_ext r4 hb
      clear r4
      clear hb a4 b4 x4 S4 X4
      go_wp2_with fail
      go_at_call 22
      refine (IA.out _ _ r5).mono ?_
      rintro rv w6 ⟨pG, cG, rfl, G6, P6, hb⟩
      have s6 : w.heap.size < w6.heap.size := hb.lt s5
      have a6 : w6.cell? ⟨w.heap.size, 0, none⟩ = some (.int .i64 e) := (hb.cells _ _ s5).trans a5
      have b6 : w6.cell? ⟨w.heap.size, 1, none⟩ = some (.int .i64 f) := (hb.cells _ _ s5).trans b5
      have x6 : Ext w w6 := Ext.trans x5 hb
      have S6 := S5.ext hb
      have X6 := X5.ext hb
      have z5 := r5.lt
      clear r5
      clear hb a5 b5 x5 S5 X5
      go_wp2_with fail
      go_at_call 18
      refine (EQM.out _ _ _ _ _ G6 S6).mono ?_
      rintro rv w7 ⟨rfl, hb⟩
      have s7 : w.heap.size < w7.heap.size := hb.lt s6
      have a7 : w7.cell? ⟨w.heap.size, 0, none⟩ = some (.int .i64 e) := (hb.cells _ _ s6).trans a6
      have b7 : w7.cell? ⟨w.heap.size, 1, none⟩ = some (.int .i64 f) := (hb.cells _ _ s6).trans b6
      have x7 : Ext w w7 := Ext.trans x6 hb
      have S7 := S6.ext hb
      have X7 := X6.ext hb
      have G7 := G6.ext hb
      clear hb a6 b6 x6 S6 X6 G6
      go_wp2_with fail
      go_at_call 16
      refine (toIntS_any p n cap V hn _ (hold.ext x7)).mono ?_
      rintro rv w8 ⟨t8, rfl, _, r8, hb⟩
      have s8 : w.heap.size < w8.heap.size := hb.lt s7
      have a8 : w8.cell? ⟨w.heap.size, 0, none⟩ = some (.int .i64 e) := (hb.cells _ _ s7).trans a7
      have b8 : w8.cell? ⟨w.heap.size, 1, none⟩ = some (.int .i64 f) := (hb.cells _ _ s7).trans b7
      have x8 : Ext w w8 := Ext.trans x7 hb
      have S8 := S7.ext hb
      have X8 := X7.ext hb
      have G8 := G7.ext hb
      have T8 := row_own r8
      clear r8
      clear hb a7 b7 x7 S7 X7 G7
      go_wp2_with fail
      go_at_call 18
      refine (EQN.out _ _ _ _ _ X8 T8).mono ?_
      rintro rv w9 ⟨rfl, hb⟩
      have s9 : w.heap.size < w9.heap.size := hb.lt s8
      have a9 : w9.cell? ⟨w.heap.size, 0, none⟩ = some (.int .i64 e) := (hb.cells _ _ s8).trans a8
      have b9 : w9.cell? ⟨w.heap.size, 1, none⟩ = some (.int .i64 f) := (hb.cells _ _ s8).trans b8
      have x9 : Ext w w9 := Ext.trans x8 hb
      have S9 := S8.ext hb
      have X9 := X8.ext hb
      have G9 := G8.ext hb
      clear T8
      clear hb a8 b8 x8 S8 X8 G8
      go_wp2_with fail
      go_at_call 19
      refine (MKN.out _ _ _ X9).mono ?_
      rintro rv w10 ⟨rfl, hm⟩
      have PX : Past (some (⟨t4, 0, none⟩ : Addr)) n (w.heap.size + 1) := fun _ b hp => (by cases hp; omega)
      have s10 : w.heap.size < w10.heap.size := by rw [hm.size]; exact s9
      have a10 : w10.cell? ⟨w.heap.size, 0, none⟩ = some (.int .i64 e) := (World.cell?_of_block (hm.far _ (fun hn b hb2 => by have := PX hn b hb2; simp only; omega))).trans a9
      have b10 : w10.cell? ⟨w.heap.size, 1, none⟩ = some (.int .i64 f) := (World.cell?_of_block (hm.far _ (fun hn b hb2 => by have := PX hn b hb2; simp only; omega))).trans b9
      have x10 : Ext w w10 := mark_ext x9 hm ((PX).le (by omega))
      have S10 := S9.block (fun hn b hb2 => hm.far _ (fun hn2 b2 hb3 => by have h1 := S0.lt hn hb2; cases hb3; omega))
      have G10 := G9.block (fun hn b hb2 => hm.far _ (fun hn2 b2 hb3 => by have h1 := P6 hn b hb2; cases hb3; omega))
      clear hm a9 b9 x9 S9 G9 X9
      go_wp2_with fail
      go_at_call 18
      refine (EQM.out _ _ _ _ _ G10 S10).mono ?_
      rintro rv w11 ⟨rfl, hb⟩
      have s11 : w.heap.size < w11.heap.size := hb.lt s10
      have a11 : w11.cell? ⟨w.heap.size, 0, none⟩ = some (.int .i64 e) := (hb.cells _ _ s10).trans a10
      have b11 : w11.cell? ⟨w.heap.size, 1, none⟩ = some (.int .i64 f) := (hb.cells _ _ s10).trans b10
      have x11 : Ext w w11 := Ext.trans x10 hb
      have S11 := S10.ext hb
      have G11 := G10.ext hb
      clear hb a10 b10 x10 S10 G10
      go_wp2_with fail
      go_at_call 19
      refine (MKM.out _ _ _ G11).mono ?_
      rintro rv w12 ⟨rfl, hm⟩
      have PG : Past pG m (w.heap.size + 1) := P6.le (by omega)
      have s12 : w.heap.size < w12.heap.size := by rw [hm.size]; exact s11
      have a12 : w12.cell? ⟨w.heap.size, 0, none⟩ = some (.int .i64 e) := (World.cell?_of_block (hm.far _ (fun hn b hb2 => by have := PG hn b hb2; simp only; omega))).trans a11
      have b12 : w12.cell? ⟨w.heap.size, 1, none⟩ = some (.int .i64 f) := (World.cell?_of_block (hm.far _ (fun hn b hb2 => by have := PG hn b hb2; simp only; omega))).trans b11
      have x12 : Ext w w12 := mark_ext x11 hm ((PG).le (by omega))
      have S12 := S11.block (fun hn b hb2 => hm.far _ (fun hn2 b2 hb3 => by have h1 := S0.lt hn hb2; have h2 := P6 hn2 b2 hb3; omega))
      have G12 := hm.row
      clear hm a11 b11 x11 S11 G11
      go_wp2_with fail
      go_at_call 20
      refine (HLM.out _ _ _ G12).mono ?_
      rintro rv w13 ⟨rfl, hb⟩
      have s13 : w.heap.size < w13.heap.size := hb.lt s12
      have a13 : w13.cell? ⟨w.heap.size, 0, none⟩ = some (.int .i64 e) := (hb.cells _ _ s12).trans a12
      have b13 : w13.cell? ⟨w.heap.size, 1, none⟩ = some (.int .i64 f) := (hb.cells _ _ s12).trans b12
      have x13 : Ext w w13 := Ext.trans x12 hb
      have S13 := S12.ext hb
      have G13 := G12.ext hb
      clear hb a12 b12 x12 S12 G12
      go_wp2_with fail
      go_at_call 15
      refine (toFormat_any e f _).mono ?_
      rintro rv w14 ⟨rfl, hb⟩
      have s14 : w.heap.size < w14.heap.size := hb.lt s13
      have a14 : w14.cell? ⟨w.heap.size, 0, none⟩ = some (.int .i64 e) := (hb.cells _ _ s13).trans a13
      have b14 : w14.cell? ⟨w.heap.size, 1, none⟩ = some (.int .i64 f) := (hb.cells _ _ s13).trans b13
      have x14 : Ext w w14 := Ext.trans x13 hb
      have S14 := S13.ext hb
      have G14 := G13.ext hb
      clear hb a13 b13 x13 S13 G13
      go_wp2_with fail
      go_at_call 16
      refine (toIntS_any p n cap V hn _ (hold.ext x14)).mono ?_
      rintro rv w15 ⟨t15, rfl, _, r15, hb⟩
      have s15 : w.heap.size < w15.heap.size := hb.lt s14
      have a15 : w15.cell? ⟨w.heap.size, 0, none⟩ = some (.int .i64 e) := (hb.cells _ _ s14).trans a14
      have b15 : w15.cell? ⟨w.heap.size, 1, none⟩ = some (.int .i64 f) := (hb.cells _ _ s14).trans b14
      have x15 : Ext w w15 := Ext.trans x14 hb
      have S15 := S14.ext hb
      have G15 := G14.ext hb
      clear hb a14 b14 x14 S14 G14
      go_wp2_with fail
      go_at_call 22
      refine (IA.out _ _ r15).mono ?_
      rintro rv w16 ⟨pH, cH, rfl, H16, P16, hb⟩
      have s16 : w.heap.size < w16.heap.size := hb.lt s15
      have a16 : w16.cell? ⟨w.heap.size, 0, none⟩ = some (.int .i64 e) := (hb.cells _ _ s15).trans a15
      have b16 : w16.cell? ⟨w.heap.size, 1, none⟩ = some (.int .i64 f) := (hb.cells _ _ s15).trans b15
      have x16 : Ext w w16 := Ext.trans x15 hb
      have S16 := S15.ext hb
      have G16 := G15.ext hb
      clear r15
      clear hb a15 b15 x15 S15 G15
      go_wp2_with fail
      go_at_call 18
      refine (EQM.out _ _ _ _ _ H16 S16).mono ?_
      rintro rv w17 ⟨rfl, hb⟩
      have s17 : w.heap.size < w17.heap.size := hb.lt s16
      have a17 : w17.cell? ⟨w.heap.size, 0, none⟩ = some (.int .i64 e) := (hb.cells _ _ s16).trans a16
      have b17 : w17.cell? ⟨w.heap.size, 1, none⟩ = some (.int .i64 f) := (hb.cells _ _ s16).trans b16
      have x17 : Ext w w17 := Ext.trans x16 hb
      have S17 := S16.ext hb
      have G17 := G16.ext hb
      have H17 := H16.ext hb
      clear hb a16 b16 x16 S16 G16 H16
      go_wp2_with fail
      go_at_call 20
      refine (HLM.out _ _ _ G17).mono ?_
      rintro rv w18 ⟨rfl, hb⟩
      have s18 : w.heap.size < w18.heap.size := hb.lt s17
      have a18 : w18.cell? ⟨w.heap.size, 0, none⟩ = some (.int .i64 e) := (hb.cells _ _ s17).trans a17
      have b18 : w18.cell? ⟨w.heap.size, 1, none⟩ = some (.int .i64 f) := (hb.cells _ _ s17).trans b17
      have x18 : Ext w w18 := Ext.trans x17 hb
      have S18 := S17.ext hb
      have G18 := G17.ext hb
      have H18 := H17.ext hb
      clear hb a17 b17 x17 S17 G17 H17
      go_wp2_with fail
      go_ret
      exact ⟨rfl, x18⟩

  · have h12 : (1048576 : Int) < (n : Int) := by omega
    go_enter Try.func4, Try.ntmps4
    go_wp2_with fail
    go_ret
    exact ⟨rfl, (by repeat (first | exact Ext.refl _ | with_reducible assumption | apply Ext.alloc | apply Ext.drew | apply Ext.drewN | (refine Ext.setRow ?_ (by first | (simp; done) | (simp; omega) | omega) _) | (refine Ext.setCell ?_ (by first | (simp; done) | (simp; omega) | omega) _) | (refine Ext.trans ?_ (by with_reducible assumption))))⟩
end Go.Proofs.Ytdagfocpbnamfaa

