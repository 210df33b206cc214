/-
  A number's bits as a text, of the model.
-/
import Derived.Test.YtfgbndjhaiigbabDoorRows
import Derived.Test.YtfgbndjhaiigbabDoorPlain
import Derived.Test.YtfgbndjhaiigbabDoorBelow
import Derived.Test.YtfgbndjhaiigbabDoorNear
import Derived.Test.YtfgbndjhaiigbabDoorDy
import Derived.Test.YtfgbndjhaiigbabDoorDyC
import Derived.Test.YtfgbndjhaiigbabDoorWalkA
import Derived.Test.YtfgbndjhaiigbabDoorWalkDA
import Derived.Test.YtfgbndjhaiigbabDoorWalkTX1
import Derived.Test.YtfgbndjhaiigbabDoorTxt
import Derived.Test.YtfgbndjhaiigbabDoorBit
import Derived.WalkKit
import Derived.LoopTactic
import Derived.Laws.Bits64b
import Derived.WalkSpells
import Derived.WalkLawsBesides
import Derived.StillTactics
import Derived.Laws.Pointers
import Derived.Deep.RegionHeld3
import Derived.Deep.QuietTactic
import Derived.BigQuiet
import Derived.Outline
import Derived.Lib.Hide
import Derived.RowKit3
import Derived.Carry
import Derived.IntWalk
import Derived.Lib.ItoaNum
import Derived.Laws.BytesString
namespace Go.Proofs.YtfgbndjhaiigbabDoor
open Go Go.RowKit
set_option linter.unusedSimpArgs false
set_option linter.unusedVariables false

set_option maxRecDepth 100000

theorem add_str (a b : List UInt8) : (⟨a.toArray⟩ : ByteArray) ++ ⟨b.toArray⟩ = ⟨(a ++ b).toArray⟩ := by
  apply ByteArray.ext
  simp [ByteArray.data_append]

set_option maxHeartbeats 3200000 in
theorem fmBits_any (x : Int) (n : Nat) (x0 : 0 ≤ x) (x1 : x < 4611686018427387904) (hn : n ≤ 60) (w : World) : Calls Tryd.prog 123 #[.int .i64 x, .int .i64 (n : Int)] w fun rv w' => rv = .returned (.string ⟨(btT x n).toArray⟩) ∧ Ext w w' := by
  have n1 : IntKind.i64.wrap ((n : Int) - 1) = (n : Int) - 1 := IntWalk.i64_in _ (by omega)
  go_enter Tryd.func123, Tryd.ntmps123
  go_wp2_with go_in
  go_loopw [5, 6] (fun s5 s6 wr => ∃ (k : Nat) (l : List UInt8), s5 = .string ⟨l.toArray⟩ ∧ s6 = .int .i64 ((k : Int) - 1) ∧ k ≤ n ∧ l.length ≤ 60 ∧ l ++ btT x k = btT x n ∧ Ext w wr) (fun _ x _ => (intOf x + 1).toNat)
  case atStart => exact ⟨n, [], by first | rfl | simp, by first | rfl | simp, by omega, by simp, rfl, (by repeat (first | exact Ext.refl _ | with_reducible assumption | apply Ext.alloc | apply Ext.drew | apply Ext.drewN | (refine Ext.setRow ?_ (by first | (simp; done) | (simp; omega) | omega) _) | (refine Ext.setCell ?_ (by first | (simp; done) | (simp; omega) | omega) _) | (refine Ext.trans ?_ (by with_reducible assumption))))⟩
  case round =>
    obtain ⟨k, l, rfl, rfl, kn, ll, hl, hx⟩ := hrel
    cases k with
    | zero =>
      have q : ¬ (0 : Int) ≤ (((0 : Nat) : Int) - 1) := by omega
      have e0 : l = btT x n := by simpa [btT] using hl
      go_wp2
      go_ret
      exact ⟨rfl, (by repeat (first | exact Ext.refl _ | with_reducible assumption | apply Ext.alloc | apply Ext.drew | apply Ext.drewN | (refine Ext.setRow ?_ (by first | (simp; done) | (simp; omega) | omega) _) | (refine Ext.setCell ?_ (by first | (simp; done) | (simp; omega) | omega) _) | (refine Ext.trans ?_ (by with_reducible assumption))))⟩
    | succ k =>
      have q : (0 : Int) ≤ (((k + 1 : Nat) : Int) - 1) := by omega
      have ek : (((k + 1 : Nat) : Int) - 1) = (k : Int) := by omega
      have d0 : 0 ≤ x / pw (k : Nat) % 2 := Int.emod_nonneg _ (by omega)
      have d1 : x / pw (k : Nat) % 2 < 2 := Int.emod_lt_of_pos _ (by omega)
      obtain ⟨d, hd⟩ : ∃ d : Nat, x / pw (k : Nat) % 2 = (d : Int) := ⟨(x / pw (k : Nat) % 2).toNat, by omega⟩
      have LC := Lib.hid (fun w => l1Num_any d (by omega) w)
      have e1 : Lib.decDigits d = [UInt8.ofNat (48 + d)] := dec_small (by omega)
      rw [e1] at LC
      have ep : pw (k : Nat) = (2 : Int) ^ k := by simp [pw]
      have ht : (x / 2 ^ k).tmod 2 = (d : Int) := by
        rw [Int.tmod_eq_emod_of_nonneg (Int.ediv_nonneg x0 (by rw [← ep]; exact Int.le_of_lt (pw_pos _)))]
        rw [← ep]; exact hd
      have c1 : ¬ 9223372036854775807 < l.length + 1 := by omega
      have hl2 : l ++ [UInt8.ofNat (48 + d)] ++ btT x k = btT x n := by
        rw [← hl, btT, hd, List.append_assoc]
        rfl
      have hll : l.length + (k + 1) = n := by
        have := congrArg List.length hl
        rwa [List.length_append, btT_length, btT_length] at this
      have kw : IntKind.i64.wrap ((k : Int) - 1) = (k : Int) - 1 := IntWalk.i64_in _ (by omega)
      have ek2 : ((((k + 1 : Nat) : Int) - 1)).toNat = k := by omega
      clear hl hd d0 d1 e1
      rw [ek] at *
      go_wp2_with (go_at_call 146; (with_reducible refine (LC.out _).mono ?_); rintro rv w1 ⟨rfl, hb⟩; have hx2 : Ext w w1 := Ext.trans (by repeat (first | exact Ext.refl _ | with_reducible assumption | apply Ext.alloc | apply Ext.drew | apply Ext.drewN | (refine Ext.setRow ?_ (by first | (simp; done) | (simp; omega) | omega) _) | (refine Ext.setCell ?_ (by first | (simp; done) | (simp; omega) | omega) _) | (refine Ext.trans ?_ (by with_reducible assumption)))) hb; clear hb hx; have hx := hx2; clear hx2)
      go_roundw
      all_goals first | (simp [intOf]; done) | (simp [intOf]; omega) | exact ⟨k, l ++ [UInt8.ofNat (48 + d)], (by first | exact congrArg Value.string (add_str _ _) | (rw [← add_str]; simp; done) | (simp [← add_str]; done)), rfl, by omega, by simp; omega, hl2, (by repeat (first | exact Ext.refl _ | with_reducible assumption | apply Ext.alloc | apply Ext.drew | apply Ext.drewN | (refine Ext.setRow ?_ (by first | (simp; done) | (simp; omega) | omega) _) | (refine Ext.setCell ?_ (by first | (simp; done) | (simp; omega) | omega) _) | (refine Ext.trans ?_ (by with_reducible assumption))))⟩

theorem dot5 (a b c : List UInt8) : (⟨a.toArray⟩ : ByteArray) ++ ⟨#[46]⟩ ++ ⟨b.toArray⟩ ++ ⟨#[46]⟩ ++ ⟨c.toArray⟩ = ⟨(a ++ [46] ++ b ++ [46] ++ c).toArray⟩ := by
  apply ByteArray.ext
  simp [ByteArray.data_append]

set_option maxHeartbeats 3200000 in
theorem fmText_any (e f p : Int) (hg : goodB e f = true) (p0 : 0 ≤ p) (p1 : p < 2 * pw (e + f)) (w : World) : Calls Tryd.prog 83 #[fmt e f, .int .i64 p] w fun rv w' => rv = .returned (.string ⟨(fmTx e f p).toArray⟩) ∧ Ext w w' := by
  obtain ⟨h1, h2, h3, h4⟩ := good_iff.1 hg
  obtain ⟨E, rfl⟩ : ∃ E : Nat, e = (E : Int) := ⟨e.toNat, by omega⟩
  obtain ⟨G, rfl⟩ : ∃ G : Nat, f = (G : Int) := ⟨f.toNat, by omega⟩
  have SG := Lib.hid (fun w => fmSign_any (E : Int) (G : Int) p hg p0 w)
  have FI := Lib.hid (fun w => fmField_any (E : Int) (G : Int) p hg p0 w)
  have RE := Lib.hid (fun w => fmRest_any (E : Int) (G : Int) p hg p0 w)
  obtain ⟨⟨a1, a2⟩, _, ⟨c1, c2⟩, _⟩ := pw_facts h1 h2 h3 h4
  have u1 : 0 ≤ p / pw (E + G : Int) := Int.ediv_nonneg p0 (by omega)
  have v1 : p / pw (E + G : Int) ≤ p := Int.ediv_le_self _ p0
  have r0 : 0 ≤ p % pw (E + G : Int) := Int.emod_nonneg _ (by omega)
  have r1 : p % pw (E + G : Int) < pw (E + G : Int) := Int.emod_lt_of_pos _ (by omega)
  have u2 : 0 ≤ p % pw (E + G : Int) / pw G := Int.ediv_nonneg r0 (by omega)
  have v2 : p % pw (E + G : Int) / pw G ≤ p % pw (E + G : Int) := Int.ediv_le_self _ r0
  have u3 : 0 ≤ p % pw (G : Int) := Int.emod_nonneg _ (by omega)
  have v3 : p % pw (G : Int) < pw (G : Int) := Int.emod_lt_of_pos _ (by omega)
  unfold fmTx
  rw [Int.toNat_natCast, Int.toNat_natCast, ← dot5]
  generalize p / pw (E + G : Int) = a at *
  generalize p % pw (E + G : Int) / pw G = b at *
  generalize p % pw (G : Int) = c at *
  have B1 : ∀ w, Calls Tryd.prog 123 #[.int .i64 a, .int .i64 1] w fun rv w' => rv = .returned (.string ⟨(btT a 1).toArray⟩) ∧ Ext w w' := fun w => fmBits_any a 1 u1 (by omega) (by omega) w
  have B2 := fun w => fmBits_any b E u2 (by omega) (by omega) w
  have B3 := fun w => fmBits_any c G u3 (by omega) (by omega) w
  have l1 := btT_length a 1
  have l2 := btT_length b E
  have l3 := btT_length c G
  generalize btT a 1 = x at *
  generalize btT b E = y at *
  generalize btT c G = z at *
  clear c1 c2
  have c1 : ¬ 9223372036854775807 < x.length + 1 := by omega
  have c2 : ¬ 9223372036854775807 < x.length + 1 + y.length := by omega
  have c3 : ¬ 9223372036854775807 < x.length + 1 + y.length + 1 := by omega
  have c4 : ¬ 9223372036854775807 < x.length + 1 + y.length + 1 + z.length := by omega
  have B1 := Lib.hid B1
  have B2 := Lib.hid B2
  have B3 := Lib.hid B3
  clear hg h1 h2 h3 h4 a1 a2 u1 v1 r0 r1 u2 v2 u3 v3 l1 l2 l3 p0 p1
  go_enter Tryd.func83, Tryd.ntmps83
  go_wp2_with go_in
  go_region_held3 (fun w' => w'.cell? ⟨w.heap.size, 0, none⟩ = some (.int .i64 (E : Int)) ∧ w'.cell? ⟨w.heap.size, 1, none⟩ = some (.int .i64 (G : Int)) ∧ w.heap.size < w'.heap.size) ((refine ⟨?_, ?_, ?_⟩ <;> first | with_reducible assumption | ((rw [cell_setRow_far _ _ _ _ _ (by omega)]); with_reducible assumption) | ((rw [setRow_size]); with_reducible assumption) | ((repeat rw [World.cell?_setCell_far _ _ _ _ (by simp)]); with_reducible assumption) | (simp; done) | (simp [World.setCell]; first | done | omega) | (simp [go_sem, World.cell?_alloc_past, World.cell?_setCell_far, *]; done))) ((first | (go_at_call 92; (with_reducible refine (SG.out _).mono ?_); rintro rv w1 ⟨rfl, hb⟩; have ns : w.heap.size < w1.heap.size := hb.lt (by first | with_reducible assumption | omega | (simp; done) | (simp; omega)); have n0 : w1.cell? ⟨w.heap.size, 0, none⟩ = some (.int .i64 (E : Int)) := (hb.cells _ _ (by first | with_reducible assumption | omega | (simp; done) | (simp; omega))).trans (by first | with_reducible assumption | (simp; done) | (simp; with_reducible assumption) | (rw [cell_alloc_before _ _ _ _ (by omega)]; with_reducible assumption) | (simp [go_sem, *]; done)); have n1 : w1.cell? ⟨w.heap.size, 1, none⟩ = some (.int .i64 (G : Int)) := (hb.cells _ _ (by first | with_reducible assumption | omega | (simp; done) | (simp; omega))).trans (by first | with_reducible assumption | (simp; done) | (simp; with_reducible assumption) | (rw [cell_alloc_before _ _ _ _ (by omega)]; with_reducible assumption) | (simp [go_sem, *]; done)); (first | (have nx := Ext.trans hx hb; clear hx) | (have nx := Ext.trans (hx.alloc _) hb; clear hx) | (have nx := Ext.trans hx.drew hb; clear hx) | have nx := hb); clear hb; try clear hs; try clear g0; try clear g1; have hx := nx; clear nx; have hs := ns; clear ns; have g0 := n0; clear n0; have g1 := n1; clear n1) | (go_at_call 90; (with_reducible refine (FI.out _).mono ?_); rintro rv w1 ⟨rfl, hb⟩; have ns : w.heap.size < w1.heap.size := hb.lt (by first | with_reducible assumption | omega | (simp; done) | (simp; omega)); have n0 : w1.cell? ⟨w.heap.size, 0, none⟩ = some (.int .i64 (E : Int)) := (hb.cells _ _ (by first | with_reducible assumption | omega | (simp; done) | (simp; omega))).trans (by first | with_reducible assumption | (simp; done) | (simp; with_reducible assumption) | (rw [cell_alloc_before _ _ _ _ (by omega)]; with_reducible assumption) | (simp [go_sem, *]; done)); have n1 : w1.cell? ⟨w.heap.size, 1, none⟩ = some (.int .i64 (G : Int)) := (hb.cells _ _ (by first | with_reducible assumption | omega | (simp; done) | (simp; omega))).trans (by first | with_reducible assumption | (simp; done) | (simp; with_reducible assumption) | (rw [cell_alloc_before _ _ _ _ (by omega)]; with_reducible assumption) | (simp [go_sem, *]; done)); (first | (have nx := Ext.trans hx hb; clear hx) | (have nx := Ext.trans (hx.alloc _) hb; clear hx) | (have nx := Ext.trans hx.drew hb; clear hx) | have nx := hb); clear hb; try clear hs; try clear g0; try clear g1; have hx := nx; clear nx; have hs := ns; clear ns; have g0 := n0; clear n0; have g1 := n1; clear n1) | (go_at_call 91; (with_reducible refine (RE.out _).mono ?_); rintro rv w1 ⟨rfl, hb⟩; have ns : w.heap.size < w1.heap.size := hb.lt (by first | with_reducible assumption | omega | (simp; done) | (simp; omega)); have n0 : w1.cell? ⟨w.heap.size, 0, none⟩ = some (.int .i64 (E : Int)) := (hb.cells _ _ (by first | with_reducible assumption | omega | (simp; done) | (simp; omega))).trans (by first | with_reducible assumption | (simp; done) | (simp; with_reducible assumption) | (rw [cell_alloc_before _ _ _ _ (by omega)]; with_reducible assumption) | (simp [go_sem, *]; done)); have n1 : w1.cell? ⟨w.heap.size, 1, none⟩ = some (.int .i64 (G : Int)) := (hb.cells _ _ (by first | with_reducible assumption | omega | (simp; done) | (simp; omega))).trans (by first | with_reducible assumption | (simp; done) | (simp; with_reducible assumption) | (rw [cell_alloc_before _ _ _ _ (by omega)]; with_reducible assumption) | (simp [go_sem, *]; done)); (first | (have nx := Ext.trans hx hb; clear hx) | (have nx := Ext.trans (hx.alloc _) hb; clear hx) | (have nx := Ext.trans hx.drew hb; clear hx) | have nx := hb); clear hb; try clear hs; try clear g0; try clear g1; have hx := nx; clear nx; have hs := ns; clear ns; have g0 := n0; clear n0; have g1 := n1; clear n1) | (go_at_call 123; (with_reducible refine (B1.out _).mono ?_); rintro rv w1 ⟨rfl, hb⟩; have ns : w.heap.size < w1.heap.size := hb.lt (by first | with_reducible assumption | omega | (simp; done) | (simp; omega)); have n0 : w1.cell? ⟨w.heap.size, 0, none⟩ = some (.int .i64 (E : Int)) := (hb.cells _ _ (by first | with_reducible assumption | omega | (simp; done) | (simp; omega))).trans (by first | with_reducible assumption | (simp; done) | (simp; with_reducible assumption) | (rw [cell_alloc_before _ _ _ _ (by omega)]; with_reducible assumption) | (simp [go_sem, *]; done)); have n1 : w1.cell? ⟨w.heap.size, 1, none⟩ = some (.int .i64 (G : Int)) := (hb.cells _ _ (by first | with_reducible assumption | omega | (simp; done) | (simp; omega))).trans (by first | with_reducible assumption | (simp; done) | (simp; with_reducible assumption) | (rw [cell_alloc_before _ _ _ _ (by omega)]; with_reducible assumption) | (simp [go_sem, *]; done)); (first | (have nx := Ext.trans hx hb; clear hx) | (have nx := Ext.trans (hx.alloc _) hb; clear hx) | (have nx := Ext.trans hx.drew hb; clear hx) | have nx := hb); clear hb; try clear hs; try clear g0; try clear g1; have hx := nx; clear nx; have hs := ns; clear ns; have g0 := n0; clear n0; have g1 := n1; clear n1) | (go_at_call 123; (with_reducible refine (B2.out _).mono ?_); rintro rv w1 ⟨rfl, hb⟩; have ns : w.heap.size < w1.heap.size := hb.lt (by first | with_reducible assumption | omega | (simp; done) | (simp; omega)); have n0 : w1.cell? ⟨w.heap.size, 0, none⟩ = some (.int .i64 (E : Int)) := (hb.cells _ _ (by first | with_reducible assumption | omega | (simp; done) | (simp; omega))).trans (by first | with_reducible assumption | (simp; done) | (simp; with_reducible assumption) | (rw [cell_alloc_before _ _ _ _ (by omega)]; with_reducible assumption) | (simp [go_sem, *]; done)); have n1 : w1.cell? ⟨w.heap.size, 1, none⟩ = some (.int .i64 (G : Int)) := (hb.cells _ _ (by first | with_reducible assumption | omega | (simp; done) | (simp; omega))).trans (by first | with_reducible assumption | (simp; done) | (simp; with_reducible assumption) | (rw [cell_alloc_before _ _ _ _ (by omega)]; with_reducible assumption) | (simp [go_sem, *]; done)); (first | (have nx := Ext.trans hx hb; clear hx) | (have nx := Ext.trans (hx.alloc _) hb; clear hx) | (have nx := Ext.trans hx.drew hb; clear hx) | have nx := hb); clear hb; try clear hs; try clear g0; try clear g1; have hx := nx; clear nx; have hs := ns; clear ns; have g0 := n0; clear n0; have g1 := n1; clear n1) | (go_at_call 123; (with_reducible refine (B3.out _).mono ?_); rintro rv w1 ⟨rfl, hb⟩; have ns : w.heap.size < w1.heap.size := hb.lt (by first | with_reducible assumption | omega | (simp; done) | (simp; omega)); have n0 : w1.cell? ⟨w.heap.size, 0, none⟩ = some (.int .i64 (E : Int)) := (hb.cells _ _ (by first | with_reducible assumption | omega | (simp; done) | (simp; omega))).trans (by first | with_reducible assumption | (simp; done) | (simp; with_reducible assumption) | (rw [cell_alloc_before _ _ _ _ (by omega)]; with_reducible assumption) | (simp [go_sem, *]; done)); have n1 : w1.cell? ⟨w.heap.size, 1, none⟩ = some (.int .i64 (G : Int)) := (hb.cells _ _ (by first | with_reducible assumption | omega | (simp; done) | (simp; omega))).trans (by first | with_reducible assumption | (simp; done) | (simp; with_reducible assumption) | (rw [cell_alloc_before _ _ _ _ (by omega)]; with_reducible assumption) | (simp [go_sem, *]; done)); (first | (have nx := Ext.trans hx hb; clear hx) | (have nx := Ext.trans (hx.alloc _) hb; clear hx) | (have nx := Ext.trans hx.drew hb; clear hx) | have nx := hb); clear hb; try clear hs; try clear g0; try clear g1; have hx := nx; clear nx; have hs := ns; clear ns; have g0 := n0; clear n0; have g1 := n1; clear n1)))
  all_goals go_wp2_with fail
  all_goals go_ret
  all_goals exact ⟨rfl, (by repeat (first | exact Ext.refl _ | with_reducible assumption | apply Ext.alloc | apply Ext.drew | apply Ext.drewN | (refine Ext.setRow ?_ (by first | (simp; done) | (simp; omega) | omega) _) | (refine Ext.setCell ?_ (by first | (simp; done) | (simp; omega) | omega) _) | (refine Ext.trans ?_ (by with_reducible assumption))))⟩

end Go.Proofs.YtfgbndjhaiigbabDoor
