/-
  Contracts of the functions that the laws reach, and the plain facts that they rest on, each under the conditions that its line names; part 33.
-/
import Derived.Test.YtmddlbphanlfhaaGreatDoorKps1
import Derived.Test.YtmddlbphanlfhaaGreatDoorKps2
import Derived.Test.YtmddlbphanlfhaaGreatDoorKps3
import Derived.Test.YtmddlbphanlfhaaGreatDoorKps4
import Derived.Test.YtmddlbphanlfhaaGreatDoorKps5
import Derived.Test.YtmddlbphanlfhaaGreatDoorKps6
import Derived.Test.YtmddlbphanlfhaaGreatDoorKps7
import Derived.Test.YtmddlbphanlfhaaGreatDoorKps8
import Derived.Test.YtmddlbphanlfhaaGreatDoorKps9
import Derived.Test.YtmddlbphanlfhaaGreatDoorKps10
import Derived.Test.YtmddlbphanlfhaaGreatDoorKps12
import Derived.Test.YtmddlbphanlfhaaGreatDoorKps27
import Derived.Test.YtmddlbphanlfhaaGreatDoorKps28
import Derived.Test.YtmddlbphanlfhaaGreatDoorKps29
import Derived.Test.YtmddlbphanlfhaaGreatDoorKps30
import Derived.Test.YtmddlbphanlfhaaGreatDoorKps31
import Derived.Test.YtmddlbphanlfhaaGreatDoorKps32
import Derived.Test.YtmddlbphanlfhaaGreatDoorRows
import Derived.WalkKit
import Derived.LoopTactic
import Derived.Laws.Bits64b
import Derived.WalkSpells
import Derived.WalkLawsBesides
import Derived.StillTactics
import Derived.Laws.Pointers
import Derived.Deep.RegionHeld3
import Derived.Deep.QuietTactic
import Derived.BigQuiet
import Derived.Outline
import Derived.Lib.Hide
import Derived.RowKit3
import Derived.Carry
import Derived.IntWalk
import Derived.Lib.SmallJoins
import Derived.Defers
import Derived.Lib.ItoaNum
import Derived.Laws.BytesString
namespace Go.Proofs.YtmddlbphanlfhaaGreatDoor
open Go Go.RowKit
set_option linter.unusedSimpArgs false
set_option linter.unusedVariables false
set_option maxRecDepth 100000

attribute [local go_sem] run_store_fun

theorem LeftIs.ext {L : Nat} {s : ByteArray} {a b : World} (h : LeftIs L s a) (x : Ext a b) : LeftIs L s b :=
  ⟨(x.cells _ _ h.2.2).trans h.1, (x.frz _ _ h.2.2).trans h.2.1, x.lt h.2.2⟩

/-- What pattern holds in its boxes. -/
def PF (L R M : Nat) (e f p : Int) (ok mm : Bool) (a : World) : Prop :=
  a.cell? ⟨R, 0, none⟩ = some (.func (.func 42) #[] #[.pointer (some ⟨L, 0, none⟩)]) ∧ a.cell? ⟨R, 1, none⟩ = some (.func (.func 44) #[] #[.pointer (some ⟨L, 0, none⟩)]) ∧ a.cell? ⟨R, 2, none⟩ = some (.func (.func 48) #[] #[.pointer (some ⟨L, 0, none⟩)]) ∧
  a.cell? ⟨R + 1, 0, none⟩ = some (.int .i64 e) ∧ a.cell? ⟨R + 1, 1, none⟩ = some (.int .i64 f) ∧
  a.cell? ⟨R + 2, 0, none⟩ = some (.int .i64 p) ∧ a.frozen? ⟨R + 2, 0, none⟩ = false ∧ a.cell? ⟨R + 3, 0, none⟩ = some (.bool ok) ∧ a.frozen? ⟨R + 3, 0, none⟩ = false ∧
  a.cell? ⟨M, 0, none⟩ = some (.bool mm) ∧ M < a.heap.size ∧ R + 3 < M

theorem PF.ex {L R M : Nat} {e f p : Int} {ok mm : Bool} {a b : World} (h : PF L R M e f p ok mm a) (x : EX L L a b) (hl : L < R) : PF L R M e f p ok mm b := by
  obtain ⟨r0, r1, r2, f0, f1, p0, zp, o0, zo, m0, lm, lr⟩ := h
  exact ⟨x.cell r0 (by omega) (by omega) (by omega), x.cell r1 (by omega) (by omega) (by omega), x.cell r2 (by omega) (by omega) (by omega), x.cell f0 (by omega) (by omega) (by omega), x.cell f1 (by omega) (by omega) (by omega), x.cell p0 (by omega) (by omega) (by omega), x.frz zp (by omega) (by omega) (by omega), x.cell o0 (by omega) (by omega) (by omega), x.frz zo (by omega) (by omega) (by omega), x.cell m0 (by omega) (by omega) (by omega), x.lt lm, lr⟩

theorem set_far {a : World} {p q o u : Nat} {v x : Value} (h : a.cell? ⟨p, o, none⟩ = some x) (hne : p ≠ q) : (a.setCell ⟨q, u, none⟩ v).cell? ⟨p, o, none⟩ = some x := by
  have hn : (⟨q, u, none⟩ : Addr) ≠ ⟨p, o, none⟩ := fun z => hne (congrArg (fun z : Addr => z.block) z).symm
  exact (World.cell?_setCell_other _ _ _ _ hn).trans h

theorem set_same {a : World} {p : Nat} {v x : Value} (h : a.cell? ⟨p, 0, none⟩ = some x) : (a.setCell ⟨p, 0, none⟩ v).cell? ⟨p, 0, none⟩ = some v := World.cell?_setCell_same' _ _ _ (by rw [h]; rfl)

theorem set_size (a : World) (x : Addr) (v : Value) : (a.setCell x v).heap.size = a.heap.size := by simp [World.setCell]

theorem PF.set {L R M : Nat} {e f p : Int} {ok mm : Bool} {a : World} (h : PF L R M e f p ok mm a) (q : Int) (b : Bool) : PF L R M e f q b mm ((a.setCell ⟨R + 2, 0, none⟩ (.int .i64 q)).setCell ⟨R + 3, 0, none⟩ (.bool b)) := by
  obtain ⟨r0, r1, r2, f0, f1, p0, zp, o0, zo, m0, lm, lr⟩ := h
  have k : ∀ {g o : Nat} {x : Value}, a.cell? ⟨g, o, none⟩ = some x → g ≠ R + 2 → g ≠ R + 3 → ((a.setCell ⟨R + 2, 0, none⟩ (.int .i64 q)).setCell ⟨R + 3, 0, none⟩ (.bool b)).cell? ⟨g, o, none⟩ = some x := fun h h1 h2 => set_far (set_far h h1) h2
  exact ⟨k r0 (by omega) (by omega), k r1 (by omega) (by omega), k r2 (by omega) (by omega), k f0 (by omega) (by omega), k f1 (by omega) (by omega), set_far (set_same p0) (by omega), by rw [World.frozen?_setCell, World.frozen?_setCell]; exact zp, set_same (set_far o0 (by omega)), by rw [World.frozen?_setCell, World.frozen?_setCell]; exact zo, k m0 (by omega) (by omega), by rw [set_size, set_size]; exact lm, lr⟩

/-- What the deferred closure leaves. -/
def endQ (ok : Bool) (s : ByteArray) : Bool := ok && s.toList.isEmpty

def endP (e f p : Int) (ok mm : Bool) (s : ByteArray) : Int := if endQ ok s = true then (if mm = true then negV e f p else p) else 0

set_option maxHeartbeats 3200000 in
theorem fin_any (L R M : Nat) (e f p : Int) (ok mm : Bool) (s : ByteArray) (w : World) (h : PF L R M e f p ok mm w) (hL : LeftIs L s w) (hp : ok = true → patB e f p = true) :
    CallsD Tryz.prog 49 #[.pointer (some ⟨R + 3, 0, none⟩), .pointer (some ⟨R, 0, none⟩), .pointer (some ⟨R + 2, 0, none⟩), .pointer (some ⟨M, 0, none⟩), .pointer (some ⟨R + 1, 0, none⟩)] .returning w fun rv u' w' => u' = .returning ∧ (rv = .returned (.tuple #[]) ∧ w'.cell? ⟨R + 2, 0, none⟩ = some (.int .i64 (endP e f p ok mm s)) ∧ w'.cell? ⟨R + 3, 0, none⟩ = some (.bool (endQ ok s)) ∧ EX (R + 2) (R + 3) w w') := by
  have HN := fun hp w => iNegateV_any e f p hp w
  have hP := Lib.hid h
  obtain ⟨r0, r1, r2, f0, f1, p0, zp, o0, zo, m0, lm, lr⟩ := h
  have ED := Lib.hid (fun w (h : LeftIs L s w) => end_any L s w h)
  have bad : endQ ok s = false → (((w.setCell ⟨R + 2, 0, none⟩ (.int .i64 0)).setCell ⟨R + 3, 0, none⟩ (.bool false)).cell? ⟨R + 2, 0, none⟩ = some (.int .i64 (endP e f p ok mm s)) ∧ ((w.setCell ⟨R + 2, 0, none⟩ (.int .i64 0)).setCell ⟨R + 3, 0, none⟩ (.bool false)).cell? ⟨R + 3, 0, none⟩ = some (.bool (endQ ok s)) ∧ EX (R + 2) (R + 3) w ((w.setCell ⟨R + 2, 0, none⟩ (.int .i64 0)).setCell ⟨R + 3, 0, none⟩ (.bool false))) := fun hb => by
    refine ⟨?_, ?_, ((EX.refl _ _ w).setc (.inl rfl) 0 _).setc (.inr (.inl rfl)) 0 _⟩
    · rw [show endP e f p ok mm s = 0 by unfold endP; rw [if_neg (by rw [hb]; decide)]]
      exact set_far (set_same p0) (by omega)
    · rw [hb]
      exact set_same (set_far o0 (by omega))
  have BAD := Lib.hid bad
  clear bad
  have AE := True.intro
  cases ok
  · have B0 := BAD.out rfl
    have B0 := Lib.hid B0
    clear HN BAD hp
    go_enter_d Tryz.func49, Tryz.ntmps49
    go_wp2_with fail
    go_end0
    exact ⟨rfl, B0.out⟩
  · have hpp := hp rfl
    have HN := Lib.hid (HN hpp)
    clear hp hpp
    cases he : s.toList.isEmpty
    · have B0 := BAD.out (by unfold endQ; rw [he]; rfl)
      have B0 := Lib.hid B0
      rw [he] at ED
      clear BAD he
      go_enter_d Tryz.func49, Tryz.ntmps49
      go_wp2_with (go_at_call 48; refine (ED.out _ hL).mono ?_; rintro rv w1 ⟨rfl, rfl⟩)
      go_end0
      exact ⟨rfl, B0.out⟩
    · rw [he] at ED
      have hb : endQ true s = true := by unfold endQ; rw [he]; rfl
      clear BAD
      cases mm
      · have hq : endP e f p true false s = p := by unfold endP; rw [if_pos hb, if_neg (by decide)]
        rw [hq, hb]
        clear hq hb he HN
        go_enter_d Tryz.func49, Tryz.ntmps49
        go_wp2_with (go_at_call 48; refine (ED.out _ hL).mono ?_; rintro rv w1 ⟨rfl, rfl⟩)
        go_end0
        exact ⟨rfl, p0, o0, EX.refl _ _ _⟩
      · have hq : endP e f p true true s = negV e f p := by unfold endP; rw [if_pos hb, if_pos rfl]
        rw [hq, hb]
        clear hq hb he
        generalize negV e f p = np at *
        go_enter_d Tryz.func49, Tryz.ntmps49
        go_wp2_with (first | (go_at_call 48; refine (ED.out _ hL).mono ?_; rintro rv w1 ⟨rfl, rfl⟩) | (go_at_call 50; refine (HN.out _).mono ?_; rintro rv w2 ⟨rfl, hb⟩; have p2 := (hb.cells _ _ (by omega)).trans p0; have z2 := (hb.frz _ _ (by omega)).trans zp; have o2 := (hb.cells _ _ (by omega)).trans o0; have x2 := (EX.ofExt (p := R + 2) (q := R + 3) hb); clear hb))
        go_end0
        exact ⟨rfl, set_same p2, set_far o2 (by omega), x2.setc (.inl rfl) 0 _⟩

theorem LeftIs.sets {L p q : Nat} {s : ByteArray} {a : World} {u v : Value} (h : LeftIs L s a) (hp : L ≠ p) (hq : L ≠ q) : LeftIs L s ((a.setCell ⟨p, 0, none⟩ u).setCell ⟨q, 0, none⟩ v) :=
  ⟨set_far (set_far h.1 hp) hq, by rw [World.frozen?_setCell, World.frozen?_setCell]; exact h.2.1, by rw [set_size, set_size]; exact h.2.2⟩

/-- One part taken: a word, a number. -/
abbrev WdC (L : Nat) (s x s2 : ByteArray) (b : Bool) : Prop := ∀ w, LeftIs L s w → Calls Tryz.prog 42 #[.string x, .pointer (some ⟨L, 0, none⟩)] w fun rv w' => rv = .returned (.bool b) ∧ w'.heap.size = w.heap.size ∧ LeftIs L s2 w' ∧ EX L L w w'

abbrev NmC (L : Nat) (s s2 : ByteArray) (n : Int) (b : Bool) : Prop := ∀ w, LeftIs L s w → TPL L w → Calls Tryz.prog 44 #[.pointer (some ⟨L, 0, none⟩)] w fun rv w' => rv = .returned (.tuple #[.int .i64 n, .bool b]) ∧ LeftIs L s2 w' ∧ EX L L w w'

set_option maxHeartbeats 6400000 in
theorem pat_inf (L : Nat) (e f : Int) (s s1 s2 : ByteArray) (mm : Bool) (H1 : RowKit.Hid (WdC L s ⟨#[45]⟩ s1 mm)) (H2 : RowKit.Hid (WdC L s1 ⟨#[105, 110, 102]⟩ s2 true)) (hg : goodB e f = true) (w : World) (hL : LeftIs L s w) (hT : TPL L w) : Calls Tryz.prog 25 #[rdR L, fmt e f] w fun rv w' => rv = .returned (.tuple #[.int .i64 (endP e f ((pw e - 1) * pw f) true mm s2), .bool (endQ true s2)]) ∧ EX L L w w' := by
  have IR := fun w => infRounded_any e f 0 0 hg (.inl rfl) w
  rw [Int.zero_mul, Int.zero_add] at IR
  have IR := Lib.hid IR
  have HP : RowKit.Hid (patB e f ((pw e - 1) * pw f) = true) := Lib.hid (inf_pat e f hg)
  clear hg
  generalize (pw e - 1) * pw f = q at *
  have hl0 := hL.2.2
  have hmf : ∀ (fn : Fn) (first cap : Array Value) (w : World), (Instr.makeFunc fn first cap).run Tryz.prog w = .ok (.func fn first cap) w := fun _ _ _ _ => rfl
  have hL := Lib.hid hL
  have hT := Lib.hid hT
  unfold rdR
  go_enter_defers Tryz.func25, Tryz.ntmps25
  go_wp2_with (first | (go_at_call 42; (with_reducible refine (H1.out _ (hL.out.ext Ext.auK)).mono ?_); clear H1; rintro rv wA ⟨rfl, szA, LA, xA⟩; simp only [World.size_alloc] at szA; have yA : EX L L w wA := EX.trans (EX.ofExt Ext.auK) xA; have r0 : wA.cell? ⟨w.heap.size, 0, none⟩ = some (.func (.func 42) #[] #[.pointer (some ⟨L, 0, none⟩)]) := xA.cell (by simp [go_sem]) (by simp <;> omega) (by omega) (by omega); have r1 : wA.cell? ⟨w.heap.size, 1, none⟩ = some (.func (.func 44) #[] #[.pointer (some ⟨L, 0, none⟩)]) := xA.cell (by simp [go_sem]) (by simp <;> omega) (by omega) (by omega); have r2 : wA.cell? ⟨w.heap.size, 2, none⟩ = some (.func (.func 48) #[] #[.pointer (some ⟨L, 0, none⟩)]) := xA.cell (by simp [go_sem]) (by simp <;> omega) (by omega) (by omega); have f0 : wA.cell? ⟨w.heap.size + 1, 0, none⟩ = some (.int .i64 e) := xA.cell (by simp [go_sem]) (by simp <;> omega) (by omega) (by omega); have f1 : wA.cell? ⟨w.heap.size + 1, 1, none⟩ = some (.int .i64 f) := xA.cell (by simp [go_sem]) (by simp <;> omega) (by omega) (by omega); have p0 : wA.cell? ⟨w.heap.size + 2, 0, none⟩ = some (.int .i64 0) := xA.cell (by simp [go_sem]) (by simp <;> omega) (by omega) (by omega); have o0 : wA.cell? ⟨w.heap.size + 3, 0, none⟩ = some (.bool false) := xA.cell (by simp [go_sem]) (by simp <;> omega) (by omega) (by omega); have zp : wA.frozen? ⟨w.heap.size + 2, 0, none⟩ = false := xA.frz (by simp [go_sem]) (by simp <;> omega) (by omega) (by omega); have zo : wA.frozen? ⟨w.heap.size + 3, 0, none⟩ = false := xA.frz (by simp [go_sem]) (by simp <;> omega) (by omega) (by omega); have TA := hT.out.ex yA; have LA := Lib.hid LA; clear xA) | (go_at_call 42; have hE : Ext wA (wA.alloc (.cells #[.bool mm] 4)) := Ext.new _ _; (with_reducible refine (H2.out _ (LA.out.ext hE)).mono ?_); clear H2; rintro rv wB ⟨rfl, szB, LB, xB⟩; have yB : EX L L w wB := (yA.ext hE).trans xB; have PFa : PF L w.heap.size wA.heap.size e f 0 false mm wB := PF.ex ⟨(hE.cells _ _ (by omega)).trans r0, (hE.cells _ _ (by omega)).trans r1, (hE.cells _ _ (by omega)).trans r2, (hE.cells _ _ (by omega)).trans f0, (hE.cells _ _ (by omega)).trans f1, (hE.cells _ _ (by omega)).trans p0, (hE.frz _ _ (by omega)).trans zp, (hE.cells _ _ (by omega)).trans o0, (hE.frz _ _ (by omega)).trans zo, by first | (simp [go_sem]; done) | (simp [go_sem, *]; done), by simp [World.setCell], by omega⟩ xB (by omega); have PFw := Lib.hid PFa; clear PFa; have TB := TA.ex ((EX.ofExt hE).trans xB); (try clear r0); (try clear r1); (try clear r2); (try clear f0); (try clear f1); (try clear p0); (try clear zp); (try clear o0); (try clear zo); (try clear m0); (try clear lm); (try clear lr); clear hE xB szB; obtain ⟨r0, r1, r2, f0, f1, p0, zp, o0, zo, m0, lm, lr⟩ := PFw.out; have LB := Lib.hid LB) | (go_at_call 51; refine (IR.out _).mono ?_; rintro rv wI ⟨rfl, hb⟩; have PFn := Lib.hid (PF.ex PFw.out (EX.ofExt hb) (by omega)); clear PFw; have PFw := PFn; clear PFn; have yI := yB.ext hb; have LI := Lib.hid (LB.out.ext hb); (try clear r0); (try clear r1); (try clear r2); (try clear f0); (try clear f1); (try clear p0); (try clear zp); (try clear o0); (try clear zo); (try clear m0); (try clear lm); (try clear lr); obtain ⟨r0, r1, r2, f0, f1, p0, zp, o0, zo, m0, lm, lr⟩ := PFw.out; clear hb))
  refine leaves_cons (f := 49) (args := #[.pointer (some ⟨w.heap.size + 3, 0, none⟩), .pointer (some ⟨w.heap.size, 0, none⟩), .pointer (some ⟨w.heap.size + 2, 0, none⟩), .pointer (some ⟨wA.heap.size, 0, none⟩), .pointer (some ⟨w.heap.size + 1, 0, none⟩)]) (by simp) (by simp [go_sem]) ?_
  refine (fin_any L w.heap.size wA.heap.size e f (q) true mm _ _ (PF.set PFw.out (q) true) (LeftIs.sets LI.out (by omega) (by omega)) (fun _ => HP.out)).mono ?_
  rintro rv u' w9 ⟨rfl, rfl, cP, cO, xx⟩
  simp [Leaves, settle, results, Tryz.results25, go_sem, cP, cO]
  exact EX.own ((yI.setc (.inr (.inr (by omega))) 0 _).setc (.inr (.inr (by omega))) 0 _) xx (by omega) (by omega)

set_option maxHeartbeats 6400000 in
theorem pat_parts (L : Nat) (e f : Int) (s s1 s2 : ByteArray) (mm : Bool) (s3 s4 s5 : ByteArray) (d t : Int) (D E T : Bool) (H1 : RowKit.Hid (WdC L s ⟨#[45]⟩ s1 mm)) (H2 : RowKit.Hid (WdC L s1 ⟨#[105, 110, 102]⟩ s2 false)) (H3 : RowKit.Hid (NmC L s2 s3 d D)) (H4 : RowKit.Hid (WdC L s3 ⟨#[101]⟩ s4 E)) (H5 : RowKit.Hid (NmC L s4 s5 t T)) (hdt : (D && E && T) = false) (w : World) (hL : LeftIs L s w) (hT : TPL L w) : Calls Tryz.prog 25 #[rdR L, fmt e f] w fun rv w' => rv = .returned (.tuple #[.int .i64 (endP e f 0 false mm s5), .bool (endQ false s5)]) ∧ EX L L w w' := by
  have hc : D = false ∨ (D = true ∧ E = false) ∨ (D = true ∧ E = true ∧ T = false) := by revert hdt; cases D <;> cases E <;> cases T <;> simp
  clear hdt
  rcases hc with rfl | ⟨rfl, rfl⟩ | ⟨rfl, rfl, rfl⟩
  all_goals
    have hl0 := hL.2.2
    have hmf : ∀ (fn : Fn) (first cap : Array Value) (w : World), (Instr.makeFunc fn first cap).run Tryz.prog w = .ok (.func fn first cap) w := fun _ _ _ _ => rfl
    have hL := Lib.hid hL
    have hT := Lib.hid hT
    unfold rdR
    go_enter_defers Tryz.func25, Tryz.ntmps25
    go_wp2_with (first | (go_at_call 42; (with_reducible refine (H1.out _ (hL.out.ext Ext.auK)).mono ?_); clear H1; rintro rv wA ⟨rfl, szA, LA, xA⟩; simp only [World.size_alloc] at szA; have yA : EX L L w wA := EX.trans (EX.ofExt Ext.auK) xA; have r0 : wA.cell? ⟨w.heap.size, 0, none⟩ = some (.func (.func 42) #[] #[.pointer (some ⟨L, 0, none⟩)]) := xA.cell (by simp [go_sem]) (by simp <;> omega) (by omega) (by omega); have r1 : wA.cell? ⟨w.heap.size, 1, none⟩ = some (.func (.func 44) #[] #[.pointer (some ⟨L, 0, none⟩)]) := xA.cell (by simp [go_sem]) (by simp <;> omega) (by omega) (by omega); have r2 : wA.cell? ⟨w.heap.size, 2, none⟩ = some (.func (.func 48) #[] #[.pointer (some ⟨L, 0, none⟩)]) := xA.cell (by simp [go_sem]) (by simp <;> omega) (by omega) (by omega); have f0 : wA.cell? ⟨w.heap.size + 1, 0, none⟩ = some (.int .i64 e) := xA.cell (by simp [go_sem]) (by simp <;> omega) (by omega) (by omega); have f1 : wA.cell? ⟨w.heap.size + 1, 1, none⟩ = some (.int .i64 f) := xA.cell (by simp [go_sem]) (by simp <;> omega) (by omega) (by omega); have p0 : wA.cell? ⟨w.heap.size + 2, 0, none⟩ = some (.int .i64 0) := xA.cell (by simp [go_sem]) (by simp <;> omega) (by omega) (by omega); have o0 : wA.cell? ⟨w.heap.size + 3, 0, none⟩ = some (.bool false) := xA.cell (by simp [go_sem]) (by simp <;> omega) (by omega) (by omega); have zp : wA.frozen? ⟨w.heap.size + 2, 0, none⟩ = false := xA.frz (by simp [go_sem]) (by simp <;> omega) (by omega) (by omega); have zo : wA.frozen? ⟨w.heap.size + 3, 0, none⟩ = false := xA.frz (by simp [go_sem]) (by simp <;> omega) (by omega) (by omega); have TA := hT.out.ex yA; have LA := Lib.hid LA; clear xA) | (go_at_call 42; have hE : Ext wA (wA.alloc (.cells #[.bool mm] 4)) := Ext.new _ _; (with_reducible refine (H2.out _ (LA.out.ext hE)).mono ?_); clear H2; rintro rv wB ⟨rfl, szB, LB, xB⟩; have yB : EX L L w wB := (yA.ext hE).trans xB; have PFa : PF L w.heap.size wA.heap.size e f 0 false mm wB := PF.ex ⟨(hE.cells _ _ (by omega)).trans r0, (hE.cells _ _ (by omega)).trans r1, (hE.cells _ _ (by omega)).trans r2, (hE.cells _ _ (by omega)).trans f0, (hE.cells _ _ (by omega)).trans f1, (hE.cells _ _ (by omega)).trans p0, (hE.frz _ _ (by omega)).trans zp, (hE.cells _ _ (by omega)).trans o0, (hE.frz _ _ (by omega)).trans zo, by first | (simp [go_sem]; done) | (simp [go_sem, *]; done), by simp [World.setCell], by omega⟩ xB (by omega); have PFw := Lib.hid PFa; clear PFa; have TB := TA.ex ((EX.ofExt hE).trans xB); (try clear r0); (try clear r1); (try clear r2); (try clear f0); (try clear f1); (try clear p0); (try clear zp); (try clear o0); (try clear zo); (try clear m0); (try clear lm); (try clear lr); clear hE xB szB; obtain ⟨r0, r1, r2, f0, f1, p0, zp, o0, zo, m0, lm, lr⟩ := PFw.out; have LB := Lib.hid LB) | (go_at_call 44; (with_reducible refine (H3.out _ LB.out TB).mono ?_); clear H3; rintro rv wC ⟨rfl, LC, xN⟩; have PFn := Lib.hid (PF.ex PFw.out xN (by omega)); clear PFw; have PFw := PFn; clear PFn; have TC := TB.ex xN; have yN := yB.trans xN; have yC := yN; clear yN xN; (try clear r0); (try clear r1); (try clear r2); (try clear f0); (try clear f1); (try clear p0); (try clear zp); (try clear o0); (try clear zo); (try clear m0); (try clear lm); (try clear lr); obtain ⟨r0, r1, r2, f0, f1, p0, zp, o0, zo, m0, lm, lr⟩ := PFw.out; have LC := Lib.hid LC) | (go_at_call 42; (with_reducible refine (H4.out _ LC.out).mono ?_); clear H4; rintro rv wD ⟨rfl, szN, LD, xN⟩; have PFn := Lib.hid (PF.ex PFw.out xN (by omega)); clear PFw; have PFw := PFn; clear PFn; have TD := TC.ex xN; have yN := yC.trans xN; have yD := yN; clear yN xN; (try clear r0); (try clear r1); (try clear r2); (try clear f0); (try clear f1); (try clear p0); (try clear zp); (try clear o0); (try clear zo); (try clear m0); (try clear lm); (try clear lr); obtain ⟨r0, r1, r2, f0, f1, p0, zp, o0, zo, m0, lm, lr⟩ := PFw.out; have LD := Lib.hid LD) | (go_at_call 44; (with_reducible refine (H5.out _ LD.out TD).mono ?_); clear H5; rintro rv wE ⟨rfl, LE, xN⟩; have PFn := Lib.hid (PF.ex PFw.out xN (by omega)); clear PFw; have PFw := PFn; clear PFn; have TE := TD.ex xN; have yN := yD.trans xN; have yE := yN; clear yN xN; (try clear r0); (try clear r1); (try clear r2); (try clear f0); (try clear f1); (try clear p0); (try clear zp); (try clear o0); (try clear zo); (try clear m0); (try clear lm); (try clear lr); obtain ⟨r0, r1, r2, f0, f1, p0, zp, o0, zo, m0, lm, lr⟩ := PFw.out; have LE := Lib.hid LE))
    refine leaves_cons (f := 49) (args := #[.pointer (some ⟨w.heap.size + 3, 0, none⟩), .pointer (some ⟨w.heap.size, 0, none⟩), .pointer (some ⟨w.heap.size + 2, 0, none⟩), .pointer (some ⟨wA.heap.size, 0, none⟩), .pointer (some ⟨w.heap.size + 1, 0, none⟩)]) (by simp) (by simp [go_sem]) ?_
    refine (fin_any L w.heap.size wA.heap.size e f (0) false mm _ _ (PF.set PFw.out (0) false) (LeftIs.sets LE.out (by omega) (by omega)) (fun h => by cases h)).mono ?_
    rintro rv u' w9 ⟨rfl, rfl, cP, cO, xx⟩
    simp [Leaves, settle, results, Tryz.results25, go_sem, cP, cO]
    exact EX.own ((yE.setc (.inr (.inr (by omega))) 0 _).setc (.inr (.inr (by omega))) 0 _) xx (by omega) (by omega)

set_option maxHeartbeats 6400000 in
theorem pat_no (L : Nat) (e f : Int) (s s1 s2 : ByteArray) (mm : Bool) (s3 s4 s5 : ByteArray) (d t : Int) (H1 : RowKit.Hid (WdC L s ⟨#[45]⟩ s1 mm)) (H2 : RowKit.Hid (WdC L s1 ⟨#[105, 110, 102]⟩ s2 false)) (H3 : RowKit.Hid (NmC L s2 s3 d true)) (H4 : RowKit.Hid (WdC L s3 ⟨#[101]⟩ s4 true)) (H5 : RowKit.Hid (NmC L s4 s5 t true)) (hg : goodB e f = true) (hd : dcB d t = false) (w : World) (hL : LeftIs L s w) (hT : TPL L w) : Calls Tryz.prog 25 #[rdR L, fmt e f] w fun rv w' => rv = .returned (.tuple #[.int .i64 (endP e f 0 false mm s5), .bool (endQ false s5)]) ∧ EX L L w w' := by
  have RD : ∀ w, Calls Tryz.prog 52 #[fmt e f, .int .i64 d, .int .i64 t, .int .i64 0] w fun rv w' => rv = .returned (.tuple #[.int .i64 (0), .bool false]) ∧ Ext w w' := fun w => iReadDecimal_no e f d t 0 (by cases hr : rcB e f d t 0; exact rfl; rw [(rc_iff.1 hr).2.1] at hd; cases hd) w
  have RD := Lib.hid RD
  clear hg hd
  have hl0 := hL.2.2
  have hmf : ∀ (fn : Fn) (first cap : Array Value) (w : World), (Instr.makeFunc fn first cap).run Tryz.prog w = .ok (.func fn first cap) w := fun _ _ _ _ => rfl
  have hL := Lib.hid hL
  have hT := Lib.hid hT
  unfold rdR
  go_enter_defers Tryz.func25, Tryz.ntmps25
  go_wp2_with (first | (go_at_call 42; (with_reducible refine (H1.out _ (hL.out.ext Ext.auK)).mono ?_); clear H1; rintro rv wA ⟨rfl, szA, LA, xA⟩; simp only [World.size_alloc] at szA; have yA : EX L L w wA := EX.trans (EX.ofExt Ext.auK) xA; have r0 : wA.cell? ⟨w.heap.size, 0, none⟩ = some (.func (.func 42) #[] #[.pointer (some ⟨L, 0, none⟩)]) := xA.cell (by simp [go_sem]) (by simp <;> omega) (by omega) (by omega); have r1 : wA.cell? ⟨w.heap.size, 1, none⟩ = some (.func (.func 44) #[] #[.pointer (some ⟨L, 0, none⟩)]) := xA.cell (by simp [go_sem]) (by simp <;> omega) (by omega) (by omega); have r2 : wA.cell? ⟨w.heap.size, 2, none⟩ = some (.func (.func 48) #[] #[.pointer (some ⟨L, 0, none⟩)]) := xA.cell (by simp [go_sem]) (by simp <;> omega) (by omega) (by omega); have f0 : wA.cell? ⟨w.heap.size + 1, 0, none⟩ = some (.int .i64 e) := xA.cell (by simp [go_sem]) (by simp <;> omega) (by omega) (by omega); have f1 : wA.cell? ⟨w.heap.size + 1, 1, none⟩ = some (.int .i64 f) := xA.cell (by simp [go_sem]) (by simp <;> omega) (by omega) (by omega); have p0 : wA.cell? ⟨w.heap.size + 2, 0, none⟩ = some (.int .i64 0) := xA.cell (by simp [go_sem]) (by simp <;> omega) (by omega) (by omega); have o0 : wA.cell? ⟨w.heap.size + 3, 0, none⟩ = some (.bool false) := xA.cell (by simp [go_sem]) (by simp <;> omega) (by omega) (by omega); have zp : wA.frozen? ⟨w.heap.size + 2, 0, none⟩ = false := xA.frz (by simp [go_sem]) (by simp <;> omega) (by omega) (by omega); have zo : wA.frozen? ⟨w.heap.size + 3, 0, none⟩ = false := xA.frz (by simp [go_sem]) (by simp <;> omega) (by omega) (by omega); have TA := hT.out.ex yA; have LA := Lib.hid LA; clear xA) | (go_at_call 42; have hE : Ext wA (wA.alloc (.cells #[.bool mm] 4)) := Ext.new _ _; (with_reducible refine (H2.out _ (LA.out.ext hE)).mono ?_); clear H2; rintro rv wB ⟨rfl, szB, LB, xB⟩; have yB : EX L L w wB := (yA.ext hE).trans xB; have PFa : PF L w.heap.size wA.heap.size e f 0 false mm wB := PF.ex ⟨(hE.cells _ _ (by omega)).trans r0, (hE.cells _ _ (by omega)).trans r1, (hE.cells _ _ (by omega)).trans r2, (hE.cells _ _ (by omega)).trans f0, (hE.cells _ _ (by omega)).trans f1, (hE.cells _ _ (by omega)).trans p0, (hE.frz _ _ (by omega)).trans zp, (hE.cells _ _ (by omega)).trans o0, (hE.frz _ _ (by omega)).trans zo, by first | (simp [go_sem]; done) | (simp [go_sem, *]; done), by simp [World.setCell], by omega⟩ xB (by omega); have PFw := Lib.hid PFa; clear PFa; have TB := TA.ex ((EX.ofExt hE).trans xB); (try clear r0); (try clear r1); (try clear r2); (try clear f0); (try clear f1); (try clear p0); (try clear zp); (try clear o0); (try clear zo); (try clear m0); (try clear lm); (try clear lr); clear hE xB szB; obtain ⟨r0, r1, r2, f0, f1, p0, zp, o0, zo, m0, lm, lr⟩ := PFw.out; have LB := Lib.hid LB) | (go_at_call 44; (with_reducible refine (H3.out _ LB.out TB).mono ?_); clear H3; rintro rv wC ⟨rfl, LC, xN⟩; have PFn := Lib.hid (PF.ex PFw.out xN (by omega)); clear PFw; have PFw := PFn; clear PFn; have TC := TB.ex xN; have yN := yB.trans xN; have yC := yN; clear yN xN; (try clear r0); (try clear r1); (try clear r2); (try clear f0); (try clear f1); (try clear p0); (try clear zp); (try clear o0); (try clear zo); (try clear m0); (try clear lm); (try clear lr); obtain ⟨r0, r1, r2, f0, f1, p0, zp, o0, zo, m0, lm, lr⟩ := PFw.out; have LC := Lib.hid LC) | (go_at_call 42; (with_reducible refine (H4.out _ LC.out).mono ?_); clear H4; rintro rv wD ⟨rfl, szN, LD, xN⟩; have PFn := Lib.hid (PF.ex PFw.out xN (by omega)); clear PFw; have PFw := PFn; clear PFn; have TD := TC.ex xN; have yN := yC.trans xN; have yD := yN; clear yN xN; (try clear r0); (try clear r1); (try clear r2); (try clear f0); (try clear f1); (try clear p0); (try clear zp); (try clear o0); (try clear zo); (try clear m0); (try clear lm); (try clear lr); obtain ⟨r0, r1, r2, f0, f1, p0, zp, o0, zo, m0, lm, lr⟩ := PFw.out; have LD := Lib.hid LD) | (go_at_call 44; (with_reducible refine (H5.out _ LD.out TD).mono ?_); clear H5; rintro rv wE ⟨rfl, LE, xN⟩; have PFn := Lib.hid (PF.ex PFw.out xN (by omega)); clear PFw; have PFw := PFn; clear PFn; have TE := TD.ex xN; have yN := yD.trans xN; have yE := yN; clear yN xN; (try clear r0); (try clear r1); (try clear r2); (try clear f0); (try clear f1); (try clear p0); (try clear zp); (try clear o0); (try clear zo); (try clear m0); (try clear lm); (try clear lr); obtain ⟨r0, r1, r2, f0, f1, p0, zp, o0, zo, m0, lm, lr⟩ := PFw.out; have LE := Lib.hid LE) | (go_at_call 52; refine (RD.out _).mono ?_; rintro rv wI ⟨rfl, hb⟩; have PFn := Lib.hid (PF.ex PFw.out (EX.ofExt hb) (by omega)); clear PFw; have PFw := PFn; clear PFn; have yI := yE.ext hb; have LI := Lib.hid (LE.out.ext hb); (try clear r0); (try clear r1); (try clear r2); (try clear f0); (try clear f1); (try clear p0); (try clear zp); (try clear o0); (try clear zo); (try clear m0); (try clear lm); (try clear lr); obtain ⟨r0, r1, r2, f0, f1, p0, zp, o0, zo, m0, lm, lr⟩ := PFw.out; clear hb))
  refine leaves_cons (f := 49) (args := #[.pointer (some ⟨w.heap.size + 3, 0, none⟩), .pointer (some ⟨w.heap.size, 0, none⟩), .pointer (some ⟨w.heap.size + 2, 0, none⟩), .pointer (some ⟨wA.heap.size, 0, none⟩), .pointer (some ⟨w.heap.size + 1, 0, none⟩)]) (by simp) (by simp [go_sem]) ?_
  refine (fin_any L w.heap.size wA.heap.size e f (0) false mm _ _ (PF.set PFw.out (0) false) (LeftIs.sets LI.out (by omega) (by omega)) (fun h => by cases h)).mono ?_
  rintro rv u' w9 ⟨rfl, rfl, cP, cO, xx⟩
  simp [Leaves, settle, results, Tryz.results25, go_sem, cP, cO]
  exact EX.own ((yI.setc (.inr (.inr (by omega))) 0 _).setc (.inr (.inr (by omega))) 0 _) xx (by omega) (by omega)

theorem rc_pat {e f d t : Int} (hg : goodB e f = true) (hd : dcB d t = true) : patB e f (rcV e f d t 0) = true := by
  obtain ⟨b0, _, b2⟩ := rc_bd hg hd
  obtain ⟨i1, i2, i3, i4⟩ := good_iff.1 hg
  obtain ⟨⟨a1, a2⟩, ⟨b1, b2'⟩, ⟨c1, c2⟩, hmul⟩ := pw_facts i1 i2 i3 i4
  refine pat_iff.2 ⟨hg, b0, ?_⟩
  unfold grV at b2
  rw [Int.sub_mul, ← hmul] at b2
  omega

set_option maxHeartbeats 6400000 in
theorem pat_yes (L : Nat) (e f : Int) (s s1 s2 : ByteArray) (mm : Bool) (s3 s4 s5 : ByteArray) (d t : Int) (H1 : RowKit.Hid (WdC L s ⟨#[45]⟩ s1 mm)) (H2 : RowKit.Hid (WdC L s1 ⟨#[105, 110, 102]⟩ s2 false)) (H3 : RowKit.Hid (NmC L s2 s3 d true)) (H4 : RowKit.Hid (WdC L s3 ⟨#[101]⟩ s4 true)) (H5 : RowKit.Hid (NmC L s4 s5 t true)) (hg : goodB e f = true) (hd : dcB d t = true) (w : World) (hL : LeftIs L s w) (hT : TPL L w) : Calls Tryz.prog 25 #[rdR L, fmt e f] w fun rv w' => rv = .returned (.tuple #[.int .i64 (endP e f (rcV e f d t 0) true mm s5), .bool (endQ true s5)]) ∧ EX L L w w' := by
  have RD : ∀ w, Calls Tryz.prog 52 #[fmt e f, .int .i64 d, .int .i64 t, .int .i64 0] w fun rv w' => rv = .returned (.tuple #[.int .i64 (rcV e f d t 0), .bool true]) ∧ Ext w w' := fun w => iReadDecimal_v e f d t 0 (rc_iff.2 ⟨hg, hd, by decide, by decide⟩) w
  have HP : RowKit.Hid (patB e f (rcV e f d t 0) = true) := Lib.hid (rc_pat hg hd)
  have RD := Lib.hid RD
  clear hg hd
  generalize rcV e f d t 0 = q at *
  have hl0 := hL.2.2
  have hmf : ∀ (fn : Fn) (first cap : Array Value) (w : World), (Instr.makeFunc fn first cap).run Tryz.prog w = .ok (.func fn first cap) w := fun _ _ _ _ => rfl
  have hL := Lib.hid hL
  have hT := Lib.hid hT
  unfold rdR
  go_enter_defers Tryz.func25, Tryz.ntmps25
  go_wp2_with (first | (go_at_call 42; (with_reducible refine (H1.out _ (hL.out.ext Ext.auK)).mono ?_); clear H1; rintro rv wA ⟨rfl, szA, LA, xA⟩; simp only [World.size_alloc] at szA; have yA : EX L L w wA := EX.trans (EX.ofExt Ext.auK) xA; have r0 : wA.cell? ⟨w.heap.size, 0, none⟩ = some (.func (.func 42) #[] #[.pointer (some ⟨L, 0, none⟩)]) := xA.cell (by simp [go_sem]) (by simp <;> omega) (by omega) (by omega); have r1 : wA.cell? ⟨w.heap.size, 1, none⟩ = some (.func (.func 44) #[] #[.pointer (some ⟨L, 0, none⟩)]) := xA.cell (by simp [go_sem]) (by simp <;> omega) (by omega) (by omega); have r2 : wA.cell? ⟨w.heap.size, 2, none⟩ = some (.func (.func 48) #[] #[.pointer (some ⟨L, 0, none⟩)]) := xA.cell (by simp [go_sem]) (by simp <;> omega) (by omega) (by omega); have f0 : wA.cell? ⟨w.heap.size + 1, 0, none⟩ = some (.int .i64 e) := xA.cell (by simp [go_sem]) (by simp <;> omega) (by omega) (by omega); have f1 : wA.cell? ⟨w.heap.size + 1, 1, none⟩ = some (.int .i64 f) := xA.cell (by simp [go_sem]) (by simp <;> omega) (by omega) (by omega); have p0 : wA.cell? ⟨w.heap.size + 2, 0, none⟩ = some (.int .i64 0) := xA.cell (by simp [go_sem]) (by simp <;> omega) (by omega) (by omega); have o0 : wA.cell? ⟨w.heap.size + 3, 0, none⟩ = some (.bool false) := xA.cell (by simp [go_sem]) (by simp <;> omega) (by omega) (by omega); have zp : wA.frozen? ⟨w.heap.size + 2, 0, none⟩ = false := xA.frz (by simp [go_sem]) (by simp <;> omega) (by omega) (by omega); have zo : wA.frozen? ⟨w.heap.size + 3, 0, none⟩ = false := xA.frz (by simp [go_sem]) (by simp <;> omega) (by omega) (by omega); have TA := hT.out.ex yA; have LA := Lib.hid LA; clear xA) | (go_at_call 42; have hE : Ext wA (wA.alloc (.cells #[.bool mm] 4)) := Ext.new _ _; (with_reducible refine (H2.out _ (LA.out.ext hE)).mono ?_); clear H2; rintro rv wB ⟨rfl, szB, LB, xB⟩; have yB : EX L L w wB := (yA.ext hE).trans xB; have PFa : PF L w.heap.size wA.heap.size e f 0 false mm wB := PF.ex ⟨(hE.cells _ _ (by omega)).trans r0, (hE.cells _ _ (by omega)).trans r1, (hE.cells _ _ (by omega)).trans r2, (hE.cells _ _ (by omega)).trans f0, (hE.cells _ _ (by omega)).trans f1, (hE.cells _ _ (by omega)).trans p0, (hE.frz _ _ (by omega)).trans zp, (hE.cells _ _ (by omega)).trans o0, (hE.frz _ _ (by omega)).trans zo, by first | (simp [go_sem]; done) | (simp [go_sem, *]; done), by simp [World.setCell], by omega⟩ xB (by omega); have PFw := Lib.hid PFa; clear PFa; have TB := TA.ex ((EX.ofExt hE).trans xB); (try clear r0); (try clear r1); (try clear r2); (try clear f0); (try clear f1); (try clear p0); (try clear zp); (try clear o0); (try clear zo); (try clear m0); (try clear lm); (try clear lr); clear hE xB szB; obtain ⟨r0, r1, r2, f0, f1, p0, zp, o0, zo, m0, lm, lr⟩ := PFw.out; have LB := Lib.hid LB) | (go_at_call 44; (with_reducible refine (H3.out _ LB.out TB).mono ?_); clear H3; rintro rv wC ⟨rfl, LC, xN⟩; have PFn := Lib.hid (PF.ex PFw.out xN (by omega)); clear PFw; have PFw := PFn; clear PFn; have TC := TB.ex xN; have yN := yB.trans xN; have yC := yN; clear yN xN; (try clear r0); (try clear r1); (try clear r2); (try clear f0); (try clear f1); (try clear p0); (try clear zp); (try clear o0); (try clear zo); (try clear m0); (try clear lm); (try clear lr); obtain ⟨r0, r1, r2, f0, f1, p0, zp, o0, zo, m0, lm, lr⟩ := PFw.out; have LC := Lib.hid LC) | (go_at_call 42; (with_reducible refine (H4.out _ LC.out).mono ?_); clear H4; rintro rv wD ⟨rfl, szN, LD, xN⟩; have PFn := Lib.hid (PF.ex PFw.out xN (by omega)); clear PFw; have PFw := PFn; clear PFn; have TD := TC.ex xN; have yN := yC.trans xN; have yD := yN; clear yN xN; (try clear r0); (try clear r1); (try clear r2); (try clear f0); (try clear f1); (try clear p0); (try clear zp); (try clear o0); (try clear zo); (try clear m0); (try clear lm); (try clear lr); obtain ⟨r0, r1, r2, f0, f1, p0, zp, o0, zo, m0, lm, lr⟩ := PFw.out; have LD := Lib.hid LD) | (go_at_call 44; (with_reducible refine (H5.out _ LD.out TD).mono ?_); clear H5; rintro rv wE ⟨rfl, LE, xN⟩; have PFn := Lib.hid (PF.ex PFw.out xN (by omega)); clear PFw; have PFw := PFn; clear PFn; have TE := TD.ex xN; have yN := yD.trans xN; have yE := yN; clear yN xN; (try clear r0); (try clear r1); (try clear r2); (try clear f0); (try clear f1); (try clear p0); (try clear zp); (try clear o0); (try clear zo); (try clear m0); (try clear lm); (try clear lr); obtain ⟨r0, r1, r2, f0, f1, p0, zp, o0, zo, m0, lm, lr⟩ := PFw.out; have LE := Lib.hid LE) | (go_at_call 52; refine (RD.out _).mono ?_; rintro rv wI ⟨rfl, hb⟩; have PFn := Lib.hid (PF.ex PFw.out (EX.ofExt hb) (by omega)); clear PFw; have PFw := PFn; clear PFn; have yI := yE.ext hb; have LI := Lib.hid (LE.out.ext hb); (try clear r0); (try clear r1); (try clear r2); (try clear f0); (try clear f1); (try clear p0); (try clear zp); (try clear o0); (try clear zo); (try clear m0); (try clear lm); (try clear lr); obtain ⟨r0, r1, r2, f0, f1, p0, zp, o0, zo, m0, lm, lr⟩ := PFw.out; clear hb))
  refine leaves_cons (f := 49) (args := #[.pointer (some ⟨w.heap.size + 3, 0, none⟩), .pointer (some ⟨w.heap.size, 0, none⟩), .pointer (some ⟨w.heap.size + 2, 0, none⟩), .pointer (some ⟨wA.heap.size, 0, none⟩), .pointer (some ⟨w.heap.size + 1, 0, none⟩)]) (by simp) (by simp [go_sem]) ?_
  refine (fin_any L w.heap.size wA.heap.size e f (q) true mm _ _ (PF.set PFw.out (q) true) (LeftIs.sets LI.out (by omega) (by omega)) (fun _ => HP.out)).mono ?_
  rintro rv u' w9 ⟨rfl, rfl, cP, cO, xx⟩
  simp [Leaves, settle, results, Tryz.results25, go_sem, cP, cO]
  exact EX.own ((yI.setc (.inr (.inr (by omega))) 0 _).setc (.inr (.inr (by omega))) 0 _) xx (by omega) (by omega)
end Go.Proofs.YtmddlbphanlfhaaGreatDoor

namespace Go.Proofs.YtmddlbphanlfhaaGreatDoor
open Go Go.RowKit
set_option linter.unusedSimpArgs false
set_option linter.unusedVariables false
set_option maxRecDepth 100000

theorem byte_mk (s : ByteArray) : (⟨s.data.toList.toArray⟩ : ByteArray) = s := by cases s; simp

theorem wdC_of (L : Nat) (s x s2 : ByteArray) (b : Bool) (h1 : Lib.hasPrefix s.data.toList x.data.toList = b) (h2 : Lib.trimPrefix s.data.toList x.data.toList = s2.data.toList) : WdC L s x s2 b := fun w hL => by
  have q := word_any L s x w hL
  rw [h1, h2, byte_mk] at q
  exact q

theorem nmC_of (L : Nat) (s s2 : ByteArray) (n : Int) (b : Bool) (hs : s.size ≤ 1048576) (h1 : anV (s.data.toList.takeWhile nmC) = n) (h2 : (Lib.itoa n == s.data.toList.takeWhile nmC) = b) (h3 : s.data.toList.dropWhile nmC = s2.data.toList) : NmC L s s2 n b := fun w hL hT => by
  have q := number_any L s hs w hL hT
  rw [h1, h2, h3, byte_mk] at q
  exact q

/-- The sign as the program takes it. -/
theorem sgn_word {s s1 : ByteArray} {u : Int} (h : Sgn s u s1) : Lib.hasPrefix s.data.toList [45] = decide (u = 1) ∧ Lib.trimPrefix s.data.toList [45] = s1.data.toList := by
  rcases h with ⟨h0, hc, rfl, rfl⟩ | ⟨hc, rfl, rfl⟩
  · have e := minus_list s h0 hc
    have hp : Lib.hasPrefix s.data.toList [45] = true := by rw [e]; rfl
    refine ⟨by rw [hp]; rfl, ?_⟩
    unfold Lib.trimPrefix
    rw [if_pos hp, e]
    rfl
  · have hp : Lib.hasPrefix s.data.toList [45] = false := by
      cases hl : s.data.toList with
      | nil => rfl
      | cons a r =>
        have h0 : 0 < s.size := by
          have := congrArg List.length hl
          rw [Array.length_toList] at this
          have e : s.data.size = s.size := rfl
          rw [List.length_cons] at this
          omega
        have ha : s[0]'h0 = a := by
          have e1 : s.data.toList[0]'(by rw [hl]; simp) = a := by simp [hl]
          rw [← e1]
          rfl
        have := hc h0
        rw [ha] at this
        unfold Lib.hasPrefix
        simp [List.isPrefixOf]
        intro q
        apply this
        rw [← q]
        rfl
    refine ⟨by rw [hp]; rfl, ?_⟩
    unfold Lib.trimPrefix
    rw [if_neg (by rw [hp]; decide)]

theorem nm_itoa (n : Int) : ∀ c ∈ Lib.itoa n, nmC c = true := by
  intro c hc
  have h := itoa_chars n c hc
  have e : c = UInt8.ofNat c.toNat := by simp
  have k : c.toNat = 45 ∨ c.toNat = 48 ∨ c.toNat = 49 ∨ c.toNat = 50 ∨ c.toNat = 51 ∨ c.toNat = 52 ∨ c.toNat = 53 ∨ c.toNat = 54 ∨ c.toNat = 55 ∨ c.toNat = 56 ∨ c.toNat = 57 := by omega
  rw [e]
  rcases k with k | k | k | k | k | k | k | k | k | k | k <;> rw [k] <;> decide

theorem take_itoa (n : Int) (r : List UInt8) (hr : r = [] ∨ ∃ t, r = 101 :: t) : (Lib.itoa n ++ r).takeWhile nmC = Lib.itoa n ∧ (Lib.itoa n ++ r).dropWhile nmC = r := by
  have h := nm_itoa n
  have e : r.takeWhile nmC = [] ∧ r.dropWhile nmC = r := by
    rcases hr with rfl | ⟨t, rfl⟩
    · exact ⟨rfl, rfl⟩
    · have q : nmC 101 = false := by decide
      exact ⟨by rw [List.takeWhile_cons, q]; rfl, by rw [List.dropWhile_cons, q]; rfl⟩
  constructor
  · rw [List.takeWhile_append_of_pos h, e.1, List.append_nil]
  · rw [List.dropWhile_append_of_pos h, e.2]

theorem anV_itoa (n : Int) (h1 : -9223372036854775808 ≤ n) (h2 : n ≤ 9223372036854775807) : anV (Lib.itoa n) = n := by unfold anV; rw [atoi_itoa n h1 h2]

/-- The parts that the program takes of a text behind its sign. -/
structure Parts (s1 s2 s3 s4 s5 : ByteArray) (d t : Int) (D E T : Bool) : Prop where
  i1 : Lib.hasPrefix s1.data.toList [105, 110, 102] = false
  i2 : Lib.trimPrefix s1.data.toList [105, 110, 102] = s2.data.toList
  d1 : anV (s2.data.toList.takeWhile nmC) = d
  d2 : (Lib.itoa d == s2.data.toList.takeWhile nmC) = D
  d3 : s2.data.toList.dropWhile nmC = s3.data.toList
  e1 : Lib.hasPrefix s3.data.toList [101] = E
  e2 : Lib.trimPrefix s3.data.toList [101] = s4.data.toList
  t1 : anV (s4.data.toList.takeWhile nmC) = t
  t2 : (Lib.itoa t == s4.data.toList.takeWhile nmC) = T
  t3 : s4.data.toList.dropWhile nmC = s5.data.toList

theorem parts_ex (s1 : ByteArray) (h : Lib.hasPrefix s1.data.toList [105, 110, 102] = false) : ∃ s2 s3 s4 s5 d t D E T, Parts s1 s2 s3 s4 s5 d t D E T :=
  ⟨⟨(Lib.trimPrefix s1.data.toList [105, 110, 102]).toArray⟩, ⟨(List.dropWhile nmC (Lib.trimPrefix s1.data.toList [105, 110, 102])).toArray⟩, ⟨(Lib.trimPrefix (List.dropWhile nmC (Lib.trimPrefix s1.data.toList [105, 110, 102])) [101]).toArray⟩, ⟨(List.dropWhile nmC (Lib.trimPrefix (List.dropWhile nmC (Lib.trimPrefix s1.data.toList [105, 110, 102])) [101])).toArray⟩, _, _, _, _, _, ⟨h, by simp, rfl, rfl, by simp, rfl, by simp, rfl, rfl, by simp⟩⟩

theorem trim_no {l p : List UInt8} (h : Lib.hasPrefix l p = false) : Lib.trimPrefix l p = l := by unfold Lib.trimPrefix; rw [if_neg (by rw [h]; decide)]

theorem trim_e {l : List UInt8} (h : Lib.hasPrefix l [101] = true) : l = 101 :: Lib.trimPrefix l [101] := by
  unfold Lib.trimPrefix
  rw [if_pos h]
  cases l with
  | nil => cases h
  | cons a r =>
    unfold Lib.hasPrefix at h
    simp [List.isPrefixOf] at h
    rw [← h]
    rfl

theorem parts_size {s1 s2 s3 s4 s5 : ByteArray} {d t : Int} {D E T : Bool} (h : Parts s1 s2 s3 s4 s5 d t D E T) : s2.size ≤ s1.size ∧ s4.size ≤ s1.size := by
  have e2 : s2.data.toList = s1.data.toList := by rw [← h.i2, trim_no h.i1]
  have l2 := congrArg List.length e2
  have l3 := congrArg List.length h.d3
  have l4 := congrArg List.length h.e2
  have g3 := (List.dropWhile_sublist (p := nmC) (l := s2.data.toList)).length_le
  have g4 : (Lib.trimPrefix s3.data.toList [101]).length ≤ s3.data.toList.length := by
    unfold Lib.trimPrefix
    split
    · rw [List.length_drop]; omega
    · exact Nat.le_refl _
  have a1 : s1.data.toList.length = s1.size := by simp
  have a2 : s2.data.toList.length = s2.size := by simp
  have a3 : s3.data.toList.length = s3.size := by simp
  have a4 : s4.data.toList.length = s4.size := by simp
  omega

/-- What the program takes is of the form. -/
theorem parts_form {s1 s2 s3 s4 s5 : ByteArray} {d t : Int} (h : Parts s1 s2 s3 s4 s5 d t true true true) (h5 : s5.data.toList = []) (hd : dcB d t = true) : ShT s1.data.toList d t := by
  obtain ⟨⟨a, b⟩, c, f⟩ := dc_iff.1 hd
  refine ⟨a, b, c, f, ?_⟩
  have e2 : s2.data.toList = s1.data.toList := by rw [← h.i2, trim_no h.i1]
  have q1 := List.takeWhile_append_dropWhile (p := nmC) (l := s2.data.toList)
  have q2 := List.takeWhile_append_dropWhile (p := nmC) (l := s4.data.toList)
  rw [h.d3, ← (beq_iff_eq.1 h.d2), trim_e h.e1, h.e2, ← q2, h.t3, h5, List.append_nil, ← (beq_iff_eq.1 h.t2)] at q1
  rw [← e2, ← q1, List.append_assoc]
  rfl

theorem inf_no {d : Int} {r : List UInt8} : Lib.hasPrefix (Lib.itoa d ++ [101] ++ r) [105, 110, 102] = false := by
  cases hx : Lib.hasPrefix (Lib.itoa d ++ [101] ++ r) [105, 110, 102]
  · rfl
  · exfalso
    cases hl : Lib.itoa d with
    | nil => rw [hl] at hx; cases hx
    | cons a l =>
      rw [hl] at hx
      unfold Lib.hasPrefix at hx
      simp [List.isPrefixOf] at hx
      have := itoa_chars d a (by rw [hl]; simp)
      rw [← hx.1] at this
      revert this
      decide

/-- What is of the form the program takes. -/
theorem form_parts {s1 : ByteArray} {d t : Int} (h : ShT s1.data.toList d t) : ∃ s2 s3 s4 s5, Parts s1 s2 s3 s4 s5 d t true true true ∧ s5.data.toList = [] := by
  obtain ⟨d0, d1, t0, t1, e⟩ := h
  have n := inf_no (d := d) (r := Lib.itoa t)
  rw [← e] at n
  have a := take_itoa d (101 :: Lib.itoa t) (.inr ⟨_, rfl⟩)
  have b := take_itoa t [] (.inl rfl)
  rw [List.append_nil] at b
  have e' : s1.data.toList = Lib.itoa d ++ 101 :: Lib.itoa t := by rw [e, List.append_assoc]; rfl
  have p : Lib.hasPrefix (101 :: Lib.itoa t) [101] = true := rfl
  refine ⟨s1, ⟨(101 :: Lib.itoa t).toArray⟩, ⟨(Lib.itoa t).toArray⟩, ⟨#[]⟩, ⟨n, trim_no n, ?_, ?_, ?_, p, ?_, ?_, ?_, ?_⟩, rfl⟩
  · rw [e', a.1]; exact anV_itoa d (by omega) (by omega)
  · rw [e', a.1]; exact beq_self_eq_true _
  · rw [e', a.2]
  · show Lib.trimPrefix (101 :: Lib.itoa t) [101] = Lib.itoa t
    unfold Lib.trimPrefix
    rw [if_pos p]
    rfl
  · show anV ((Lib.itoa t).takeWhile nmC) = t
    rw [b.1]; exact anV_itoa t (by omega) (by omega)
  · show (Lib.itoa t == (Lib.itoa t).takeWhile nmC) = true
    rw [b.1]; exact beq_self_eq_true _
  · exact b.2

theorem lt_mk {L n : Nat} {s : ByteArray} {w1 : World} (_ : LeftIs L s w1) (h : n < L) : n < L := h

theorem tpl_mk {L : Nat} {s : ByteArray} {w w1 : World} (_ : LeftIs L s w1) (hT : TPE w) (x : Ext w w1) (hl : w.heap.size ≤ L) : TPL L w1 := ⟨w, hT, hl, EX.ofExt x⟩

theorem iPS_bad (e f : Int) (s : ByteArray) (hg : goodB e f = false) (w : World) : Calls Tryz.prog 7 #[fmt e f, .string s] w fun rv w' => rv = .returned (.tuple #[.int .i64 0, .bool false]) ∧ Ext w w' := by
  have GA := fun w => isFormat_any e f w
  rw [hg] at GA
  have GA := Lib.hid GA
  clear hg
  go_enter Tryz.func7, Tryz.ntmps7
  go_wp2_with (go_at_call 22; (with_reducible refine (GA.out _).mono ?_); rintro rv w1 ⟨rfl, hb⟩; have ns : w.heap.size < w1.heap.size := hb.ltK; have n0 : w1.cell? ⟨w.heap.size, 0, none⟩ = some (.int .i64 e) := hb.cellK; have n1 : w1.cell? ⟨w.heap.size, 1, none⟩ = some (.int .i64 f) := hb.cellK; (first | (have nx := hx.trK hb; clear hx) | have nx := hb); clear hb; try clear hs; try clear g0; try clear g1; have hx := nx; clear nx; have hs := ns; clear ns; have g0 := n0; clear n0; have g1 := n1; clear n1)
  exact bodyPost_ret (v := .tuple #[.int .i64 0, .bool false]) (by simp [results, Tryz.results7, go_sem, *]) rfl ⟨rfl, Ext.auK⟩

theorem iPS_nan (e f : Int) (s : ByteArray) (hg : goodB e f = true) (hn : s.data.toList = [110, 97, 110]) (w : World) : Calls Tryz.prog 7 #[fmt e f, .string s] w fun rv w' => rv = .returned (.tuple #[.int .i64 (quV e f), .bool true]) ∧ Ext w w' := by
  have GA := fun w => isFormat_any e f w
  rw [hg] at GA
  have GA := Lib.hid GA
  have QV := Lib.hid (fun w => iQuietOf_yes e f hg w)
  have qn : (s.toList == [110, 97, 110]) = true := by rw [beq_iff_eq, ByteArray.toList_eq]; exact hn
  clear hn hg
  generalize quV e f = q at *
  go_enter Tryz.func7, Tryz.ntmps7
  go_wp2_with (first | (go_at_call 22; (with_reducible refine (GA.out _).mono ?_); rintro rv w1 ⟨rfl, hb⟩; have ns : w.heap.size < w1.heap.size := hb.ltK; have n0 : w1.cell? ⟨w.heap.size, 0, none⟩ = some (.int .i64 e) := hb.cellK; have n1 : w1.cell? ⟨w.heap.size, 1, none⟩ = some (.int .i64 f) := hb.cellK; (first | (have nx := hx.trK hb; clear hx) | have nx := hb); clear hb; try clear hs; try clear g0; try clear g1; have hx := nx; clear nx; have hs := ns; clear ns; have g0 := n0; clear n0; have g1 := n1; clear n1) | (go_at_call 23; (with_reducible refine (QV.out _).mono ?_); rintro rv w1 ⟨rfl, hb⟩; have ns : w.heap.size < w1.heap.size := hb.ltK; have n0 : w1.cell? ⟨w.heap.size, 0, none⟩ = some (.int .i64 e) := hb.cellK; have n1 : w1.cell? ⟨w.heap.size, 1, none⟩ = some (.int .i64 f) := hb.cellK; (first | (have nx := hx.trK hb; clear hx) | have nx := hb); clear hb; try clear hs; try clear g0; try clear g1; have hx := nx; clear nx; have hs := ns; clear ns; have g0 := n0; clear n0; have g1 := n1; clear n1))
  exact bodyPost_ret (v := .tuple #[.int .i64 (q), .bool true]) (by simp [results, Tryz.results7, go_sem, *]) rfl ⟨rfl, Ext.auK⟩

set_option maxHeartbeats 3200000 in
theorem iPS_pat (e f q : Int) (b : Bool) (s : ByteArray) (hg : goodB e f = true) (hn : s.data.toList ≠ [110, 97, 110]) (PT : RowKit.Hid (∀ (L : Nat) (w : World), LeftIs L s w → TPL L w → Calls Tryz.prog 25 #[rdR L, fmt e f] w fun rv w' => rv = .returned (.tuple #[.int .i64 q, .bool b]) ∧ EX L L w w')) (w : World) (hT : TPE w) : Calls Tryz.prog 7 #[fmt e f, .string s] w fun rv w' => rv = .returned (.tuple #[.int .i64 q, .bool b]) ∧ Ext w w' := by
  have GA := fun w => isFormat_any e f w
  rw [hg] at GA
  have GA := Lib.hid GA
  have qn : (s.toList == [110, 97, 110]) = false := by rw [beq_eq_false_iff_ne, ByteArray.toList_eq]; exact hn
  clear hn hg
  go_enter Tryz.func7, Tryz.ntmps7
  go_wp2_with (go_at_call 22; (with_reducible refine (GA.out _).mono ?_); rintro rv w1 ⟨rfl, hb⟩; have ns : w.heap.size < w1.heap.size := hb.ltK; have n0 : w1.cell? ⟨w.heap.size, 0, none⟩ = some (.int .i64 e) := hb.cellK; have n1 : w1.cell? ⟨w.heap.size, 1, none⟩ = some (.int .i64 f) := hb.cellK; (first | (have nx := hx.trK hb; clear hx) | have nx := hb); clear hb; try clear hs; try clear g0; try clear g1; have hx := nx; clear nx; have hs := ns; clear ns; have g0 := n0; clear n0; have g1 := n1; clear n1)
  go_region_held3 (fun w' => w'.cell? ⟨w.heap.size, 0, none⟩ = some (.int .i64 e) ∧ w'.cell? ⟨w.heap.size, 1, none⟩ = some (.int .i64 f) ∧ w.heap.size < w'.heap.size) ((refine ⟨?_, ?_, ?_⟩ <;> first | with_reducible assumption | ((rw [cell_setRow_far _ _ _ _ _ (by omega)]); with_reducible assumption) | ((rw [setRow_size]); with_reducible assumption) | ((repeat rw [World.cell?_setCell_far _ _ _ _ (by simp)]); with_reducible assumption) | (simp; done) | (simp [World.setCell]; first | done | omega) | (simp [go_sem, World.cell?_alloc_past, World.cell?_setCell_far, *]; done))) ((first | (go_at_call 24; refine (readerOf_any s _).mono ?_; rintro rv w1 ⟨rfl, cL, zL, lL, hb⟩; have n0 : w1.cell? ⟨w.heap.size, 0, none⟩ = some (.int .i64 e) := (hb.cells _ _ (by first | with_reducible assumption | omega | (simp; done) | (simp; omega))).trans (by first | with_reducible assumption | (simp; done) | (simp; with_reducible assumption) | (simp [go_sem, *]; done)); have n1 : w1.cell? ⟨w.heap.size, 1, none⟩ = some (.int .i64 f) := (hb.cells _ _ (by first | with_reducible assumption | omega | (simp; done) | (simp; omega))).trans (by first | with_reducible assumption | (simp; done) | (simp; with_reducible assumption) | (simp [go_sem, *]; done)); have ns : w.heap.size < w1.heap.size := hb.ltK; have nx : Ext w w1 := Ext.auK; have HL9 : LeftIs _ s w1 := ⟨cL, zL, lL⟩; (try simp only [World.size_drew] at HL9); have HT9 := tpl_mk HL9 hT nx (by first | omega | (simp <;> omega)); have LN9 := lt_mk (n := w.heap.size) HL9 (by first | with_reducible assumption | omega | (simp <;> omega)); have HL9 := Lib.hid HL9; have HT9 := Lib.hid HT9; clear cL zL lL; (try clear g0); (try clear g1); (try clear hs); (try clear hx); have g0 := n0; have g1 := n1; have hs := ns; have hx := nx; clear n0 n1 ns nx hb) | (go_at_call 25; (with_reducible refine (PT.out _ _ HL9.out HT9.out).mono ?_); rintro rv w2 ⟨rfl, hp⟩; have hx2 : Ext w w2 := EX.out (Ext.refl w) (EX.trans (EX.ofExt Ext.auK) hp) (by omega) (by omega); have n0 := hp.cell g0 hs (by omega) (by omega); have n1 := hp.cell g1 hs (by omega) (by omega); have ns := hp.lt hs; clear hp g0 g1 hs; have g0 := n0; have g1 := n1; have hs := ns; clear n0 n1 ns)))
  all_goals go_wp2_with fail
  all_goals exact bodyPost_ret (v := .tuple #[.int .i64 q, .bool b]) (by simp [results, Tryz.results7, go_sem, *]) rfl ⟨rfl, Ext.auK⟩

theorem end_val {e f p u : Int} {s5 : ByteArray} (hp : p < pw (e + f)) (p0 : 0 ≤ p) (hu : u = 0 ∨ u = 1) (h5 : s5.data.toList = []) : endP e f p true (decide (u = 1)) s5 = u * pw (e + f) + p ∧ endQ true s5 = true := by
  have hq : endQ true s5 = true := by unfold endQ; rw [ByteArray.toList_eq, h5]; rfl
  refine ⟨?_, hq⟩
  unfold endP
  rw [if_pos hq]
  rcases hu with rfl | rfl
  · rw [if_neg (by decide), Int.zero_mul, Int.zero_add]
  · rw [if_pos (by decide)]
    unfold negV
    rw [Int.ediv_eq_zero_of_lt p0 hp, Int.emod_eq_of_lt p0 hp]
    omega

theorem end_bad {e f p : Int} {ok mm : Bool} {s5 : ByteArray} (h : ok = false ∨ s5.data.toList ≠ []) : endP e f p ok mm s5 = 0 ∧ endQ ok s5 = false := by
  have hq : endQ ok s5 = false := by
    unfold endQ
    rcases h with rfl | h
    · rfl
    · rw [ByteArray.toList_eq]
      cases hl : s5.data.toList with
      | nil => exact absurd hl h
      | cons a r => cases ok <;> rfl
  exact ⟨by unfold endP; rw [if_neg (by rw [hq]; decide)], hq⟩

theorem iPS_inf (e f : Int) (s s1 : ByteArray) (u : Int) (hg : goodB e f = true) (hs : s.size ≤ 1048576) (hn : s.data.toList ≠ [110, 97, 110]) (SG : Sgn s u s1) (hi : s1.data.toList = [105, 110, 102]) (w : World) (hT : TPE w) : Calls Tryz.prog 7 #[fmt e f, .string s] w fun rv w' => rv = .returned (.tuple #[.int .i64 (u * pw (e + f) + (pw e - 1) * pw f), .bool true]) ∧ Ext w w' := by
  obtain ⟨g1, g2⟩ := sgn_word SG
  obtain ⟨z1, z2⟩ := sgn_bd SG
  have hp := inf_pat e f hg
  obtain ⟨h1, h2, h3, h4⟩ := good_iff.1 hg
  obtain ⟨⟨a1, a2⟩, ⟨b1, b2⟩, ⟨c1, c2⟩, hmul⟩ := pw_facts h1 h2 h3 h4
  have l1 : (pw e - 1) * pw f < pw (e + f) := by rw [hmul, Int.sub_mul]; omega
  have l0 := (pat_iff.1 hp).2.1
  have i1 : Lib.hasPrefix s1.data.toList [105, 110, 102] = true := by rw [hi]; rfl
  have i2 : Lib.trimPrefix s1.data.toList [105, 110, 102] = (⟨#[]⟩ : ByteArray).data.toList := by rw [hi]; rfl
  obtain ⟨v1, v2⟩ := end_val (s5 := ⟨#[]⟩) l1 l0 z2 rfl
  refine iPS_pat e f _ _ s hg hn (Lib.hid fun L w hL hT => ?_) w hT
  have q := pat_inf L e f s s1 ⟨#[]⟩ (decide (u = 1)) (Lib.hid (wdC_of L s ⟨#[45]⟩ s1 _ g1 g2)) (Lib.hid (wdC_of L s1 ⟨#[105, 110, 102]⟩ ⟨#[]⟩ true i1 i2)) hg w hL hT
  rw [v1, v2] at q
  exact q

theorem iPS_yes (e f : Int) (s s1 : ByteArray) (u : Int) (hg : goodB e f = true) (hs : s.size ≤ 1048576) (hn : s.data.toList ≠ [110, 97, 110]) (SG : Sgn s u s1) (d t : Int) (hsh : ShT s1.data.toList d t) (w : World) (hT : TPE w) : Calls Tryz.prog 7 #[fmt e f, .string s] w fun rv w' => rv = .returned (.tuple #[.int .i64 (u * pw (e + f) + rcV e f d t 0), .bool true]) ∧ Ext w w' := by
  obtain ⟨g1, g2⟩ := sgn_word SG
  obtain ⟨z1, z2⟩ := sgn_bd SG
  obtain ⟨s2, s3, s4, s5, P, h5⟩ := form_parts hsh
  have hd : dcB d t = true := dc_iff.2 ⟨⟨hsh.1, hsh.2.1⟩, hsh.2.2.1, hsh.2.2.2.1⟩
  obtain ⟨r0, _, r2⟩ := rc_bd hg hd
  obtain ⟨h1, h2, h3, h4⟩ := good_iff.1 hg
  obtain ⟨⟨a1, a2⟩, ⟨b1, b2⟩, ⟨c1, c2⟩, hmul⟩ := pw_facts h1 h2 h3 h4
  have l1 : rcV e f d t 0 < pw (e + f) := by unfold grV at r2; rw [Int.sub_mul] at r2; rw [hmul]; omega
  obtain ⟨v1, v2⟩ := end_val (s5 := s5) l1 r0 z2 h5
  obtain ⟨y1, y2⟩ := parts_size P
  refine iPS_pat e f _ _ s hg hn (Lib.hid fun L w hL hT => ?_) w hT
  have q := pat_yes L e f s s1 s2 (decide (u = 1)) s3 s4 s5 d t (Lib.hid (wdC_of L s ⟨#[45]⟩ s1 _ g1 g2)) (Lib.hid (wdC_of L s1 ⟨#[105, 110, 102]⟩ s2 false P.i1 P.i2)) (Lib.hid (nmC_of L s2 s3 d true (by omega) P.d1 P.d2 P.d3)) (Lib.hid (wdC_of L s3 ⟨#[101]⟩ s4 true P.e1 P.e2)) (Lib.hid (nmC_of L s4 s5 t true (by omega) P.t1 P.t2 P.t3)) hg hd w hL hT
  rw [v1, v2] at q
  exact q

theorem iPS_no (e f : Int) (s s1 : ByteArray) (u : Int) (hg : goodB e f = true) (hs : s.size ≤ 1048576) (hn : s.data.toList ≠ [110, 97, 110]) (SG : Sgn s u s1) (hi : s1.data.toList ≠ [105, 110, 102]) (hno : ∀ d t, ¬ ShT s1.data.toList d t) (w : World) (hT : TPE w) : Calls Tryz.prog 7 #[fmt e f, .string s] w fun rv w' => rv = .returned (.tuple #[.int .i64 0, .bool false]) ∧ Ext w w' := by
  obtain ⟨g1, g2⟩ := sgn_word SG
  obtain ⟨z1, z2⟩ := sgn_bd SG
  cases hx : Lib.hasPrefix s1.data.toList [105, 110, 102]
  · obtain ⟨s2, s3, s4, s5, d, t, D, E, T, P⟩ := parts_ex s1 hx
    obtain ⟨y1, y2⟩ := parts_size P
    cases hb : (D && E && T)
    · obtain ⟨v1, v2⟩ := end_bad (e := e) (f := f) (p := 0) (ok := false) (mm := decide (u = 1)) (s5 := s5) (.inl rfl)
      refine iPS_pat e f _ _ s hg hn (Lib.hid fun L w hL hT => ?_) w hT
      have q := pat_parts L e f s s1 s2 (decide (u = 1)) s3 s4 s5 d t D E T (Lib.hid (wdC_of L s ⟨#[45]⟩ s1 _ g1 g2)) (Lib.hid (wdC_of L s1 ⟨#[105, 110, 102]⟩ s2 false P.i1 P.i2)) (Lib.hid (nmC_of L s2 s3 d D (by omega) P.d1 P.d2 P.d3)) (Lib.hid (wdC_of L s3 ⟨#[101]⟩ s4 E P.e1 P.e2)) (Lib.hid (nmC_of L s4 s5 t T (by omega) P.t1 P.t2 P.t3)) hb w hL hT
      rw [v1, v2] at q
      exact q
    · rw [Bool.and_eq_true, Bool.and_eq_true] at hb
      obtain ⟨⟨rfl, rfl⟩, rfl⟩ := hb
      cases hd : dcB d t
      · obtain ⟨v1, v2⟩ := end_bad (e := e) (f := f) (p := 0) (ok := false) (mm := decide (u = 1)) (s5 := s5) (.inl rfl)
        refine iPS_pat e f _ _ s hg hn (Lib.hid fun L w hL hT => ?_) w hT
        have q := pat_no L e f s s1 s2 (decide (u = 1)) s3 s4 s5 d t (Lib.hid (wdC_of L s ⟨#[45]⟩ s1 _ g1 g2)) (Lib.hid (wdC_of L s1 ⟨#[105, 110, 102]⟩ s2 false P.i1 P.i2)) (Lib.hid (nmC_of L s2 s3 d true (by omega) P.d1 P.d2 P.d3)) (Lib.hid (wdC_of L s3 ⟨#[101]⟩ s4 true P.e1 P.e2)) (Lib.hid (nmC_of L s4 s5 t true (by omega) P.t1 P.t2 P.t3)) hg hd w hL hT
        rw [v1, v2] at q
        exact q
      · have h5 : s5.data.toList ≠ [] := fun h5 => hno d t (parts_form P h5 hd)
        obtain ⟨v1, v2⟩ := end_bad (e := e) (f := f) (p := rcV e f d t 0) (ok := true) (mm := decide (u = 1)) (s5 := s5) (.inr h5)
        refine iPS_pat e f _ _ s hg hn (Lib.hid fun L w hL hT => ?_) w hT
        have q := pat_yes L e f s s1 s2 (decide (u = 1)) s3 s4 s5 d t (Lib.hid (wdC_of L s ⟨#[45]⟩ s1 _ g1 g2)) (Lib.hid (wdC_of L s1 ⟨#[105, 110, 102]⟩ s2 false P.i1 P.i2)) (Lib.hid (nmC_of L s2 s3 d true (by omega) P.d1 P.d2 P.d3)) (Lib.hid (wdC_of L s3 ⟨#[101]⟩ s4 true P.e1 P.e2)) (Lib.hid (nmC_of L s4 s5 t true (by omega) P.t1 P.t2 P.t3)) hg hd w hL hT
        rw [v1, v2] at q
        exact q
  · have h5 : (⟨(Lib.trimPrefix s1.data.toList [105, 110, 102]).toArray⟩ : ByteArray).data.toList ≠ [] := by
      show (Lib.trimPrefix s1.data.toList [105, 110, 102]).toArray.toList ≠ []
      intro h
      rw [List.toList_toArray] at h
      apply hi
      unfold Lib.trimPrefix at h
      rw [if_pos hx] at h
      have hle : s1.data.toList.length ≤ 3 := by
        have := congrArg List.length h
        rw [List.length_drop] at this
        simp only [List.length_cons, List.length_nil] at this
        omega
      have hpf := List.isPrefixOf_iff_prefix.1 hx
      exact (hpf.eq_of_length_le hle).symm
    obtain ⟨v1, v2⟩ := end_bad (e := e) (f := f) (p := (pw e - 1) * pw f) (ok := true) (mm := decide (u = 1)) (.inr h5)
    refine iPS_pat e f _ _ s hg hn (Lib.hid fun L w hL hT => ?_) w hT
    have q := pat_inf L e f s s1 ⟨(Lib.trimPrefix s1.data.toList [105, 110, 102]).toArray⟩ (decide (u = 1)) (Lib.hid (wdC_of L s ⟨#[45]⟩ s1 _ g1 g2)) (Lib.hid (wdC_of L s1 ⟨#[105, 110, 102]⟩ _ true hx (by simp))) hg w hL hT
    rw [v1, v2] at q
    exact q
end Go.Proofs.YtmddlbphanlfhaaGreatDoor

namespace Go.Proofs.YtmddlbphanlfhaaGreatDoor
open Go Go.RowKit
set_option linter.unusedSimpArgs false
set_option linter.unusedVariables false

theorem itoa_six (n : Int) (h1 : -999999 ≤ n) (h2 : n ≤ 999999) : (Lib.itoa n).length ≤ 8 := by
  have key : ∀ m : Nat, m ≤ 999999 → (Lib.decDigits m).length ≤ 7 := fun m hm => by
    have := dec_len 6 m (by omega)
    omega
  unfold Lib.itoa
  split
  · rw [List.length_cons]
    have := key n.natAbs (by omega)
    first | omega | (have := key (-n).toNat (by omega); omega)
  · have := key n.toNat (by omega)
    omega

theorem both_ps (e f : Int) (s : ByteArray) (hs : s.size ≤ 1048576) : ∃ (q : Int) (b : Bool), RowKit.Hid (∀ w : World, Calls Tryz.prog 5 #[fmt e f, .string s] w fun rv w' => rv = .returned (.tuple #[.int .i64 q, .bool b]) ∧ Ext w w') ∧ RowKit.Hid (∀ w : World, TPE w → Calls Tryz.prog 7 #[fmt e f, .string s] w fun rv w' => rv = .returned (.tuple #[.int .i64 q, .bool b]) ∧ Ext w w') := by
  cases hg : goodB e f
  · exact ⟨0, false, Lib.hid (fun w => sPS_bad e f s (.inl hg) w), Lib.hid (fun w _ => iPS_bad e f s hg w)⟩
  · obtain ⟨u, s1, SG⟩ := sgn_ex s
    by_cases hn : s.data.toList = [110, 97, 110]
    · exact ⟨quV e f, true, Lib.hid (fun w => sPS_nan e f s hg hn w), Lib.hid (fun w _ => iPS_nan e f s hg hn w)⟩
    · have hle : s.size ≤ s1.size + 1 := by
        rcases SG with ⟨h0, _, _, rfl⟩ | ⟨_, _, rfl⟩
        · simp
          omega
        · omega
      have ln : s1.data.toList.length = s1.size := by simp
      by_cases hi : s1.data.toList = [105, 110, 102]
      · have l3 : s1.size = 3 := by rw [← ln, hi]; rfl
        exact ⟨_, true, Lib.hid (fun w => sPS_inf e f s s1 u hg (by omega) hn SG hi w), Lib.hid (fun w hT => iPS_inf e f s s1 u hg hs hn SG hi w hT)⟩
      · by_cases hy : ∃ d t, ShT s1.data.toList d t
        · obtain ⟨d, t, hy⟩ := hy
          have l1 : s1.size ≤ 19 := by
            have q := congrArg List.length hy.2.2.2.2
            rw [ln, List.length_append, List.length_append] at q
            have a := itoa_six d (by have := hy.1; omega) (by have := hy.2.1; omega)
            have b := itoa_six t (by have := hy.2.2.1; omega) (by have := hy.2.2.2.1; omega)
            simp only [List.length_cons, List.length_nil] at q
            omega
          exact ⟨_, true, Lib.hid (fun w => sPS_yes e f s s1 u hg (by omega) hn SG hi d t hy w), Lib.hid (fun w hT => iPS_yes e f s s1 u hg hs hn SG d t hy w hT)⟩
        · have hno : ∀ d t, ¬ ShT s1.data.toList d t := fun d t h => hy ⟨d, t, h⟩
          by_cases h20 : s.size ≤ 20
          · exact ⟨0, false, Lib.hid (fun w => sPS_no e f s s1 u hg h20 hn SG hi hno w), Lib.hid (fun w hT => iPS_no e f s s1 u hg hs hn SG hi hno w hT)⟩
          · exact ⟨0, false, Lib.hid (fun w => sPS_bad e f s (.inr (by omega)) w), Lib.hid (fun w hT => iPS_no e f s s1 u hg hs hn SG hi hno w hT)⟩
end Go.Proofs.YtmddlbphanlfhaaGreatDoor

