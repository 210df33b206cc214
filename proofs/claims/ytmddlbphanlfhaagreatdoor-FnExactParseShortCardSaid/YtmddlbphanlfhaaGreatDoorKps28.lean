/-
  Contracts of the functions that the laws reach, and the plain facts that they rest on, each under the conditions that its line names; part 28.
-/
import Derived.Test.YtmddlbphanlfhaaGreatDoorKps1
import Derived.Test.YtmddlbphanlfhaaGreatDoorKps2
import Derived.Test.YtmddlbphanlfhaaGreatDoorKps3
import Derived.Test.YtmddlbphanlfhaaGreatDoorKps4
import Derived.Test.YtmddlbphanlfhaaGreatDoorKps5
import Derived.Test.YtmddlbphanlfhaaGreatDoorKps6
import Derived.Test.YtmddlbphanlfhaaGreatDoorKps7
import Derived.Test.YtmddlbphanlfhaaGreatDoorKps8
import Derived.Test.YtmddlbphanlfhaaGreatDoorKps9
import Derived.Test.YtmddlbphanlfhaaGreatDoorKps10
import Derived.Test.YtmddlbphanlfhaaGreatDoorKps12
import Derived.Test.YtmddlbphanlfhaaGreatDoorKps27
import Derived.Test.YtmddlbphanlfhaaGreatDoorRows
import Derived.WalkKit
import Derived.LoopTactic
import Derived.Laws.Bits64b
import Derived.WalkSpells
import Derived.WalkLawsBesides
import Derived.StillTactics
import Derived.Laws.Pointers
import Derived.Deep.RegionHeld3
import Derived.Deep.QuietTactic
import Derived.BigQuiet
import Derived.Outline
import Derived.Lib.Hide
import Derived.RowKit3
import Derived.Carry
import Derived.IntWalk
import Derived.Lib.ItoaNum
import Derived.Laws.BytesString
namespace Go.Proofs.YtmddlbphanlfhaaGreatDoor
open Go Go.RowKit
set_option linter.unusedSimpArgs false
set_option linter.unusedVariables false
set_option maxRecDepth 100000

/-- A sign in front of a text, and what is behind it. -/
def Sgn (s : ByteArray) (u : Int) (s1 : ByteArray) : Prop := (∃ h : 0 < s.size, (s[0]'h).toNat = 45 ∧ u = 1 ∧ s.extract 1 s.size = s1) ∨ ((∀ h : 0 < s.size, (s[0]'h).toNat ≠ 45) ∧ u = 0 ∧ s = s1)

theorem sgn_bd {s s1 : ByteArray} {u : Int} (h : Sgn s u s1) : s1.size ≤ s.size ∧ (u = 0 ∨ u = 1) := by
  rcases h with ⟨h0, _, rfl, rfl⟩ | ⟨_, rfl, rfl⟩
  · exact ⟨by simp, .inr rfl⟩
  · exact ⟨Nat.le_refl _, .inl rfl⟩

theorem sgn_ex (s : ByteArray) : ∃ u s1, Sgn s u s1 := by
  by_cases h : ∃ h : 0 < s.size, (s[0]'h).toNat = 45
  · obtain ⟨h0, h1⟩ := h
    exact ⟨1, _, .inl ⟨h0, h1, rfl, rfl⟩⟩
  · exact ⟨0, s, .inr ⟨fun h0 h1 => h ⟨h0, h1⟩, rfl, rfl⟩⟩

theorem l1r_bd (s : ByteArray) : -1 ≤ l1rV s ∧ l1rV s ≤ 999999 := by
  by_cases h : 0 ≤ l1rV s
  · exact ⟨by omega, (l1r_sound s h).2⟩
  · have : l1rV s = -1 := by
      unfold l1rV at h ⊢
      split
      · rename_i c
        rw [if_pos c] at h
        have := (rdF_bd s s.size c.2.2.2).1
        omega
      · rfl
    omega

theorem rc_bd {e f d t : Int} (hg : goodB e f = true) (hd : dcB d t = true) : 0 ≤ rcV e f d t 0 ∧ rcV e f d t 0 ≤ 32768 ∧ rcV e f d t 0 ≤ grV e f + 1 := by
  obtain ⟨_, _, _, ⟨s, _, hq, _⟩, _⟩ := txRead_any e f d t 0 hg hd (by decide) (by decide) (default : World) []
  rw [← rc_one hg hq]
  have b := rnd_bd2 hg hq
  refine ⟨b.1, b.2, ?_⟩
  obtain ⟨p, ⟨p0, p1, _, _⟩, rfl⟩ := hq
  unfold rndP
  split
  · omega
  · split <;> omega

theorem sPS_bad (e f : Int) (s : ByteArray) (h : goodB e f = false ∨ 20 < s.size) (w : World) : Calls Tryz.prog 5 #[fmt e f, .string s] w fun rv w' => rv = .returned (.tuple #[.int .i64 0, .bool false]) ∧ Ext w w' := by
  have GA := fun w => fmGood_any e f w
  by_cases hg : goodB e f = true
  · have q20 : (20 : Int) < (s.size : Int) := by
      rcases h with h | h
      · rw [hg] at h; cases h
      · omega
    rw [hg] at GA
    have GA := Lib.hid GA
    clear h hg
    go_enter Tryz.func5, Tryz.ntmps5
    go_wp2_with (go_at_call 14; (with_reducible refine (GA.out _).mono ?_); rintro rv w1 ⟨rfl, hb⟩; have ns : w.heap.size < w1.heap.size := hb.ltK; have n0 : w1.cell? ⟨w.heap.size, 0, none⟩ = some (.int .i64 e) := hb.cellK; have n1 : w1.cell? ⟨w.heap.size, 1, none⟩ = some (.int .i64 f) := hb.cellK; (first | (have nx := hx.trK hb; clear hx) | have nx := hb); clear hb; try clear hs; try clear g0; try clear g1; have hx := nx; clear nx; have hs := ns; clear ns; have g0 := n0; clear n0; have g1 := n1; clear n1)
    exact bodyPost_ret (v := .tuple #[.int .i64 0, .bool false]) (by simp [results, Tryz.results5, go_sem, *]) rfl ⟨rfl, Ext.auK⟩
  · rw [show goodB e f = false by simpa using hg] at GA
    have GA := Lib.hid GA
    clear h hg
    go_enter Tryz.func5, Tryz.ntmps5
    go_wp2_with (go_at_call 14; (with_reducible refine (GA.out _).mono ?_); rintro rv w1 ⟨rfl, hb⟩; have ns : w.heap.size < w1.heap.size := hb.ltK; have n0 : w1.cell? ⟨w.heap.size, 0, none⟩ = some (.int .i64 e) := hb.cellK; have n1 : w1.cell? ⟨w.heap.size, 1, none⟩ = some (.int .i64 f) := hb.cellK; (first | (have nx := hx.trK hb; clear hx) | have nx := hb); clear hb; try clear hs; try clear g0; try clear g1; have hx := nx; clear nx; have hs := ns; clear ns; have g0 := n0; clear n0; have g1 := n1; clear n1)
    exact bodyPost_ret (v := .tuple #[.int .i64 0, .bool false]) (by simp [results, Tryz.results5, go_sem, *]) rfl ⟨rfl, Ext.auK⟩

theorem sPS_nan (e f : Int) (s : ByteArray) (hg : goodB e f = true) (hn : s.data.toList = [110, 97, 110]) (w : World) : Calls Tryz.prog 5 #[fmt e f, .string s] w fun rv w' => rv = .returned (.tuple #[.int .i64 (quV e f), .bool true]) ∧ Ext w w' := by
  have GA := fun w => fmGood_any e f w
  rw [hg] at GA
  have GA := Lib.hid GA
  have QV := Lib.hid (fun w => arQuiet_any e f hg w)
  have q20 : ¬ (20 : Int) < (s.size : Int) := by
    have : s.data.toList.length = 3 := by rw [hn]; rfl
    have e2 : s.data.toList.length = s.size := by simp
    omega
  have qn : (s.toList == [110, 97, 110]) = true := by rw [beq_iff_eq, ByteArray.toList_eq]; exact hn
  clear hn hg
  generalize quV e f = q at *
  go_enter Tryz.func5, Tryz.ntmps5
  go_wp2_with (first | (go_at_call 14; (with_reducible refine (GA.out _).mono ?_); rintro rv w1 ⟨rfl, hb⟩; have ns : w.heap.size < w1.heap.size := hb.ltK; have n0 : w1.cell? ⟨w.heap.size, 0, none⟩ = some (.int .i64 e) := hb.cellK; have n1 : w1.cell? ⟨w.heap.size, 1, none⟩ = some (.int .i64 f) := hb.cellK; (first | (have nx := hx.trK hb; clear hx) | have nx := hb); clear hb; try clear hs; try clear g0; try clear g1; have hx := nx; clear nx; have hs := ns; clear ns; have g0 := n0; clear n0; have g1 := n1; clear n1) | (go_at_call 15; (with_reducible refine (QV.out _).mono ?_); rintro rv w1 ⟨rfl, hb⟩; have ns : w.heap.size < w1.heap.size := hb.ltK; have n0 : w1.cell? ⟨w.heap.size, 0, none⟩ = some (.int .i64 e) := hb.cellK; have n1 : w1.cell? ⟨w.heap.size, 1, none⟩ = some (.int .i64 f) := hb.cellK; (first | (have nx := hx.trK hb; clear hx) | have nx := hb); clear hb; try clear hs; try clear g0; try clear g1; have hx := nx; clear nx; have hs := ns; clear ns; have g0 := n0; clear n0; have g1 := n1; clear n1))
  exact bodyPost_ret (v := .tuple #[.int .i64 (q), .bool true]) (by simp [results, Tryz.results5, go_sem, *]) rfl ⟨rfl, Ext.auK⟩

set_option maxHeartbeats 3200000 in
theorem sPS_inf (e f : Int) (s s1 : ByteArray) (u : Int) (hg : goodB e f = true) (hs20 : s.size ≤ 20) (hn : s.data.toList ≠ [110, 97, 110]) (SG : Sgn s u s1) (hi : s1.data.toList = [105, 110, 102]) (w : World) : Calls Tryz.prog 5 #[fmt e f, .string s] w fun rv w' => rv = .returned (.tuple #[.int .i64 (u * pw (e + f) + (pw e - 1) * pw f), .bool true]) ∧ Ext w w' := by
  have GA := fun w => fmGood_any e f w
  rw [hg] at GA
  have GA := Lib.hid GA
  have q20 : ¬ (20 : Int) < (s.size : Int) := by omega
  have qn : (s.toList == [110, 97, 110]) = false := by rw [beq_eq_false_iff_ne, ByteArray.toList_eq]; exact hn
  obtain ⟨z1, z2⟩ := sgn_bd SG
  have hI : (s1.toList == [105, 110, 102]) = true := by rw [beq_iff_eq, ByteArray.toList_eq]; exact hi
  obtain ⟨i1, i2, i3, i4⟩ := good_iff.1 hg
  obtain ⟨⟨a1, a2⟩, ⟨b1, b2⟩, ⟨c1, c2⟩, hmul⟩ := pw_facts i1 i2 i3 i4
  have hinf0 : 0 ≤ (pw e - 1) * pw f := Int.mul_nonneg (by omega) (by omega)
  have hinf1 : (pw e - 1) * pw f ≤ 31 * 1024 := Int.mul_le_mul (by omega) c2 (by omega) (by omega)
  have FI := Lib.hid (fun w => fmInfinite_any e f hg w)
  have FO := Lib.hid (fun w => fmOf_any e f u ((pw e - 1) * pw f) hg (by omega) (by omega) (by omega) (by omega) w)
  clear i1 i2 i3 i4 a1 a2 b1 b2 c1 c2 hmul hinf0 hinf1 hg hn hi z1 z2
  generalize u * pw (e + f) + (pw e - 1) * pw f = q at *
  generalize (pw e - 1) * pw f = m at *
  rcases SG with ⟨h0, hc, rfl, hs1⟩ | ⟨hc, rfl, rfl⟩
  · have q0 : (0 : Int) < (s.size : Int) := by omega
    have hcb : (((s[0]'h0).toNat : Int) == 45) = true := by simp; omega
    have SL1 : ∀ w, (Instr.slice 9 (.string s) (some (.int .i64 1)) none none).run Tryz.prog w = .ok (.string s1) w := fun w => by rw [run_slice_string_from_if _ _ _ _ _ Tryz.underlying9, if_pos ⟨by omega, by omega⟩, ← hs1]; rfl
    clear hc hs1
    go_enter Tryz.func5, Tryz.ntmps5
    go_wp2_with (go_at_call 14; (with_reducible refine (GA.out _).mono ?_); rintro rv w1 ⟨rfl, hb⟩; have ns : w.heap.size < w1.heap.size := hb.ltK; have n0 : w1.cell? ⟨w.heap.size, 0, none⟩ = some (.int .i64 e) := hb.cellK; have n1 : w1.cell? ⟨w.heap.size, 1, none⟩ = some (.int .i64 f) := hb.cellK; (first | (have nx := hx.trK hb; clear hx) | have nx := hb); clear hb; try clear hs; try clear g0; try clear g1; have hx := nx; clear nx; have hs := ns; clear ns; have g0 := n0; clear n0; have g1 := n1; clear n1)
    go_region_held3 (fun w' => w'.cell? ⟨w.heap.size, 0, none⟩ = some (.int .i64 e) ∧ w'.cell? ⟨w.heap.size, 1, none⟩ = some (.int .i64 f) ∧ w.heap.size < w'.heap.size) ((refine ⟨?_, ?_, ?_⟩ <;> first | with_reducible assumption | ((rw [cell_setRow_far _ _ _ _ _ (by omega)]); with_reducible assumption) | ((rw [setRow_size]); with_reducible assumption) | ((repeat rw [World.cell?_setCell_far _ _ _ _ (by simp)]); with_reducible assumption) | (simp; done) | (simp [World.setCell]; first | done | omega) | (simp [go_sem, World.cell?_alloc_past, World.cell?_setCell_far, *]; done))) ((first | (go_at_call 17; (with_reducible refine (FI.out _).mono ?_); rintro rv w1 ⟨rfl, hb⟩; have ns : w.heap.size < w1.heap.size := hb.ltK; have n0 : w1.cell? ⟨w.heap.size, 0, none⟩ = some (.int .i64 e) := hb.cellK; have n1 : w1.cell? ⟨w.heap.size, 1, none⟩ = some (.int .i64 f) := hb.cellK; (first | (have nx := hx.trK hb; clear hx) | have nx := hb); clear hb; try clear hs; try clear g0; try clear g1; have hx := nx; clear nx; have hs := ns; clear ns; have g0 := n0; clear n0; have g1 := n1; clear n1) | (go_at_call 16; (with_reducible refine (FO.out _).mono ?_); rintro rv w1 ⟨rfl, hb⟩; have ns : w.heap.size < w1.heap.size := hb.ltK; have n0 : w1.cell? ⟨w.heap.size, 0, none⟩ = some (.int .i64 e) := hb.cellK; have n1 : w1.cell? ⟨w.heap.size, 1, none⟩ = some (.int .i64 f) := hb.cellK; (first | (have nx := hx.trK hb; clear hx) | have nx := hb); clear hb; try clear hs; try clear g0; try clear g1; have hx := nx; clear nx; have hs := ns; clear ns; have g0 := n0; clear n0; have g1 := n1; clear n1)))
    all_goals go_wp2_with fail
    all_goals exact bodyPost_ret (v := .tuple #[.int .i64 (q), .bool true]) (by simp [results, Tryz.results5, go_sem, *]) rfl ⟨rfl, Ext.auK⟩
  · by_cases h0 : 0 < s.size
    · have q0 : (0 : Int) < (s.size : Int) := by omega
      have hcb : (((s[0]'h0).toNat : Int) == 45) = false := by have := hc h0; simp; omega
      clear hc
      go_enter Tryz.func5, Tryz.ntmps5
      go_wp2_with (go_at_call 14; (with_reducible refine (GA.out _).mono ?_); rintro rv w1 ⟨rfl, hb⟩; have ns : w.heap.size < w1.heap.size := hb.ltK; have n0 : w1.cell? ⟨w.heap.size, 0, none⟩ = some (.int .i64 e) := hb.cellK; have n1 : w1.cell? ⟨w.heap.size, 1, none⟩ = some (.int .i64 f) := hb.cellK; (first | (have nx := hx.trK hb; clear hx) | have nx := hb); clear hb; try clear hs; try clear g0; try clear g1; have hx := nx; clear nx; have hs := ns; clear ns; have g0 := n0; clear n0; have g1 := n1; clear n1)
      go_region_held3 (fun w' => w'.cell? ⟨w.heap.size, 0, none⟩ = some (.int .i64 e) ∧ w'.cell? ⟨w.heap.size, 1, none⟩ = some (.int .i64 f) ∧ w.heap.size < w'.heap.size) ((refine ⟨?_, ?_, ?_⟩ <;> first | with_reducible assumption | ((rw [cell_setRow_far _ _ _ _ _ (by omega)]); with_reducible assumption) | ((rw [setRow_size]); with_reducible assumption) | ((repeat rw [World.cell?_setCell_far _ _ _ _ (by simp)]); with_reducible assumption) | (simp; done) | (simp [World.setCell]; first | done | omega) | (simp [go_sem, World.cell?_alloc_past, World.cell?_setCell_far, *]; done))) ((first | (go_at_call 17; (with_reducible refine (FI.out _).mono ?_); rintro rv w1 ⟨rfl, hb⟩; have ns : w.heap.size < w1.heap.size := hb.ltK; have n0 : w1.cell? ⟨w.heap.size, 0, none⟩ = some (.int .i64 e) := hb.cellK; have n1 : w1.cell? ⟨w.heap.size, 1, none⟩ = some (.int .i64 f) := hb.cellK; (first | (have nx := hx.trK hb; clear hx) | have nx := hb); clear hb; try clear hs; try clear g0; try clear g1; have hx := nx; clear nx; have hs := ns; clear ns; have g0 := n0; clear n0; have g1 := n1; clear n1) | (go_at_call 16; (with_reducible refine (FO.out _).mono ?_); rintro rv w1 ⟨rfl, hb⟩; have ns : w.heap.size < w1.heap.size := hb.ltK; have n0 : w1.cell? ⟨w.heap.size, 0, none⟩ = some (.int .i64 e) := hb.cellK; have n1 : w1.cell? ⟨w.heap.size, 1, none⟩ = some (.int .i64 f) := hb.cellK; (first | (have nx := hx.trK hb; clear hx) | have nx := hb); clear hb; try clear hs; try clear g0; try clear g1; have hx := nx; clear nx; have hs := ns; clear ns; have g0 := n0; clear n0; have g1 := n1; clear n1)))
      all_goals go_wp2_with fail
      all_goals exact bodyPost_ret (v := .tuple #[.int .i64 (q), .bool true]) (by simp [results, Tryz.results5, go_sem, *]) rfl ⟨rfl, Ext.auK⟩
    · have q0 : ¬ (0 : Int) < (s.size : Int) := by omega
      clear hc
      go_enter Tryz.func5, Tryz.ntmps5
      go_wp2_with (go_at_call 14; (with_reducible refine (GA.out _).mono ?_); rintro rv w1 ⟨rfl, hb⟩; have ns : w.heap.size < w1.heap.size := hb.ltK; have n0 : w1.cell? ⟨w.heap.size, 0, none⟩ = some (.int .i64 e) := hb.cellK; have n1 : w1.cell? ⟨w.heap.size, 1, none⟩ = some (.int .i64 f) := hb.cellK; (first | (have nx := hx.trK hb; clear hx) | have nx := hb); clear hb; try clear hs; try clear g0; try clear g1; have hx := nx; clear nx; have hs := ns; clear ns; have g0 := n0; clear n0; have g1 := n1; clear n1)
      go_region_held3 (fun w' => w'.cell? ⟨w.heap.size, 0, none⟩ = some (.int .i64 e) ∧ w'.cell? ⟨w.heap.size, 1, none⟩ = some (.int .i64 f) ∧ w.heap.size < w'.heap.size) ((refine ⟨?_, ?_, ?_⟩ <;> first | with_reducible assumption | ((rw [cell_setRow_far _ _ _ _ _ (by omega)]); with_reducible assumption) | ((rw [setRow_size]); with_reducible assumption) | ((repeat rw [World.cell?_setCell_far _ _ _ _ (by simp)]); with_reducible assumption) | (simp; done) | (simp [World.setCell]; first | done | omega) | (simp [go_sem, World.cell?_alloc_past, World.cell?_setCell_far, *]; done))) ((first | (go_at_call 17; (with_reducible refine (FI.out _).mono ?_); rintro rv w1 ⟨rfl, hb⟩; have ns : w.heap.size < w1.heap.size := hb.ltK; have n0 : w1.cell? ⟨w.heap.size, 0, none⟩ = some (.int .i64 e) := hb.cellK; have n1 : w1.cell? ⟨w.heap.size, 1, none⟩ = some (.int .i64 f) := hb.cellK; (first | (have nx := hx.trK hb; clear hx) | have nx := hb); clear hb; try clear hs; try clear g0; try clear g1; have hx := nx; clear nx; have hs := ns; clear ns; have g0 := n0; clear n0; have g1 := n1; clear n1) | (go_at_call 16; (with_reducible refine (FO.out _).mono ?_); rintro rv w1 ⟨rfl, hb⟩; have ns : w.heap.size < w1.heap.size := hb.ltK; have n0 : w1.cell? ⟨w.heap.size, 0, none⟩ = some (.int .i64 e) := hb.cellK; have n1 : w1.cell? ⟨w.heap.size, 1, none⟩ = some (.int .i64 f) := hb.cellK; (first | (have nx := hx.trK hb; clear hx) | have nx := hb); clear hb; try clear hs; try clear g0; try clear g1; have hx := nx; clear nx; have hs := ns; clear ns; have g0 := n0; clear n0; have g1 := n1; clear n1)))
      all_goals go_wp2_with fail
      all_goals exact bodyPost_ret (v := .tuple #[.int .i64 (q), .bool true]) (by simp [results, Tryz.results5, go_sem, *]) rfl ⟨rfl, Ext.auK⟩

set_option maxHeartbeats 6400000 in
theorem sPS_yes (e f : Int) (s s1 : ByteArray) (u : Int) (hg : goodB e f = true) (hs20 : s.size ≤ 20) (hn : s.data.toList ≠ [110, 97, 110]) (SG : Sgn s u s1) (hi : s1.data.toList ≠ [105, 110, 102]) (d t : Int) (hsh : ShT s1.data.toList d t) (w : World) : Calls Tryz.prog 5 #[fmt e f, .string s] w fun rv w' => rv = .returned (.tuple #[.int .i64 (u * pw (e + f) + rcV e f d t 0), .bool true]) ∧ Ext w w' := by
  have GA := fun w => fmGood_any e f w
  rw [hg] at GA
  have GA := Lib.hid GA
  have q20 : ¬ (20 : Int) < (s.size : Int) := by omega
  have qn : (s.toList == [110, 97, 110]) = false := by rw [beq_eq_false_iff_ne, ByteArray.toList_eq]; exact hn
  obtain ⟨z1, z2⟩ := sgn_bd SG
  have hI : (s1.toList == [105, 110, 102]) = false := by rw [beq_eq_false_iff_ne, ByteArray.toList_eq]; exact hi
  have LS := fun w => l1Split_row s1 (by omega) w
  obtain ⟨p0, p1, hsp⟩ : ∃ p0 p1, spV s1 = [p0, p1] := ⟨_, _, sh_spV s1 d t hsh⟩
  obtain ⟨d0, d1, t0, t1, e0, e1⟩ := (sh_parts s1 p0 p1 hsp d t).1 hsh
  rw [hsp] at LS
  have LS := Lib.hid LS
  have hdc : dcB d t = true := dc_iff.2 ⟨⟨d0, d1⟩, t0, t1⟩
  obtain ⟨_, y1, _⟩ := ten_of p0 d (by omega) (by omega) e0
  obtain ⟨h1, y2, y3⟩ := ten_of p1 t (by omega) (by omega) e1
  have hb := spV_two s1 p0 p1 hsp
  have hbl := congrArg List.length hb.1
  simp only [List.length_append, List.length_cons, List.length_nil, Array.length_toList] at hbl
  have hbl1 : p0.data.size = p0.size := rfl
  have hbl2 : p1.data.size = p1.size := rfl
  have hbl3 : s1.data.size = s1.size := rfl
  have RR0 := fun w => l1Read_any p0 (by omega) w
  rw [(y1 d0).2] at RR0
  have R0 := Lib.hid RR0
  clear RR0
  have p1s : p1.size ≤ 1048576 := by omega
  have pe : (p1.toList == []) = false := by
    rw [beq_eq_false_iff_ne, ByteArray.toList_eq]
    intro h
    have q : p1.data.toList.length = 0 := by rw [h]; rfl
    rw [Array.length_toList] at q
    have q2 : p1.data.size = p1.size := rfl
    omega
  have rc := rc_bd hg hdc
  have TD := fun w => txDecimal_any d t w
  rw [hdc] at TD
  have TD := Lib.hid TD
  have TR := Lib.hid (fun w => txRead_v e f d t 0 hg hdc (by decide) (by decide) w)
  have FO := Lib.hid (fun w => fmOf_any e f u (rcV e f d t 0) hg (by omega) (by omega) (by omega) (by omega) w)
  generalize u * pw (e + f) + rcV e f d t 0 = q at *
  generalize rcV e f d t 0 = m at *
  by_cases ht : 0 ≤ t
  · obtain ⟨y4, y5⟩ := y2 ht
    have hcb2 : (((p1[0]'h1).toNat : Int) == 45) = false := by simp; omega
    have RR1 := fun w => l1Read_any p1 p1s w
    rw [y5] at RR1
    have R1 := Lib.hid RR1
    have h1i : (0 : Int) < (p1.size : Int) := by omega
    have ht2 : ¬ t < 0 := by omega
    clear RR1 y1 y2 y3 y4 y5 rc hdc e0 e1 hsp hsh hi hg hn z1 z2 p1s hb hbl hbl1 hbl2 hbl3
    rcases SG with ⟨h0, hc, rfl, hs1⟩ | ⟨hc, rfl, rfl⟩
    · have q0 : (0 : Int) < (s.size : Int) := by omega
      have hcb : (((s[0]'h0).toNat : Int) == 45) = true := by simp; omega
      have SL1 : ∀ w, (Instr.slice 9 (.string s) (some (.int .i64 1)) none none).run Tryz.prog w = .ok (.string s1) w := fun w => by rw [run_slice_string_from_if _ _ _ _ _ Tryz.underlying9, if_pos ⟨by omega, by omega⟩, ← hs1]; rfl
      clear hc hs1
      go_enter Tryz.func5, Tryz.ntmps5
      go_wp2_with (first | (go_at_call 14; (with_reducible refine (GA.out _).mono ?_); rintro rv w1 ⟨rfl, hb⟩; have ns : w.heap.size < w1.heap.size := hb.ltK; have n0 : w1.cell? ⟨w.heap.size, 0, none⟩ = some (.int .i64 e) := hb.cellK; have n1 : w1.cell? ⟨w.heap.size, 1, none⟩ = some (.int .i64 f) := hb.cellK; (first | (have nx := hx.trK hb; clear hx) | have nx := hb); clear hb; try clear hs; try clear g0; try clear g1; have hx := nx; clear nx; have hs := ns; clear ns; have g0 := n0; clear n0; have g1 := n1; clear n1) | (go_at_call 18; refine (LS.out _).mono ?_; rintro rv w1 ⟨v, rfl, OWN0, hb⟩; have OWN : World.ownsRow w1 _ _ 1 v 2 _ := OWN0; clear OWN0; obtain ⟨gg, cp, rfl, og1, og2⟩ := World.ownsRow.form OWN (by decide); have c0 := OWN.cellAt 0 (by decide); have c1 := OWN.cellAt 1 (by decide); simp only [rwT, List.map_cons, List.map_nil, List.getElem?_cons_zero, List.getElem?_cons_succ] at c0 c1; clear OWN; have k9s : w.heap.size < w1.heap.size := hb.ltK; have k90 : w1.cell? ⟨w.heap.size, 0, none⟩ = some (.int .i64 e) := (hb.cells _ _ (by first | with_reducible assumption | omega | (simp; done) | (simp; omega))).trans (by first | with_reducible assumption | (simp; done) | (simp; with_reducible assumption) | (simp [go_sem, *]; done)); have k91 : w1.cell? ⟨w.heap.size, 1, none⟩ = some (.int .i64 f) := (hb.cells _ _ (by first | with_reducible assumption | omega | (simp; done) | (simp; omega))).trans (by first | with_reducible assumption | (simp; done) | (simp; with_reducible assumption) | (simp [go_sem, *]; done)); have k9x : Ext w w1 := Ext.auK; (try clear hx); (try clear nx); (try clear hs); (try clear ns); (try clear g0); (try clear n0); (try clear g1); (try clear n1); (try clear hb); have hx := k9x; clear k9x; have hs := k9s; clear k9s; have g0 := k90; clear k90; have g1 := k91; clear k91) | (go_at_call 19; (with_reducible refine (R0.out _).mono ?_); rintro rv w1 ⟨rfl, rfl⟩) | (go_at_call 19; (with_reducible refine (R1.out _).mono ?_); rintro rv w1 ⟨rfl, rfl⟩) | (go_at_call 20; (with_reducible refine (TD.out _).mono ?_); rintro rv w1 ⟨rfl, hb⟩; have ns : w.heap.size < w1.heap.size := hb.ltK; have n0 : w1.cell? ⟨w.heap.size, 0, none⟩ = some (.int .i64 e) := hb.cellK; have n1 : w1.cell? ⟨w.heap.size, 1, none⟩ = some (.int .i64 f) := hb.cellK; (first | (have nx := hx.trK hb; clear hx) | have nx := hb); clear hb; try clear hs; try clear g0; try clear g1; have hx := nx; clear nx; have hs := ns; clear ns; have g0 := n0; clear n0; have g1 := n1; clear n1))
      go_region_held3 (fun w' => w'.cell? ⟨w.heap.size, 0, none⟩ = some (.int .i64 e) ∧ w'.cell? ⟨w.heap.size, 1, none⟩ = some (.int .i64 f) ∧ w.heap.size < w'.heap.size) ((refine ⟨?_, ?_, ?_⟩ <;> first | with_reducible assumption | ((rw [cell_setRow_far _ _ _ _ _ (by omega)]); with_reducible assumption) | ((rw [setRow_size]); with_reducible assumption) | ((repeat rw [World.cell?_setCell_far _ _ _ _ (by simp)]); with_reducible assumption) | (simp; done) | (simp [World.setCell]; first | done | omega) | (simp [go_sem, World.cell?_alloc_past, World.cell?_setCell_far, *]; done))) ((first | (go_at_call 21; (with_reducible refine (TR.out _).mono ?_); rintro rv w1 ⟨rfl, hb⟩; have ns : w.heap.size < w1.heap.size := hb.ltK; have n0 : w1.cell? ⟨w.heap.size, 0, none⟩ = some (.int .i64 e) := hb.cellK; have n1 : w1.cell? ⟨w.heap.size, 1, none⟩ = some (.int .i64 f) := hb.cellK; (first | (have nx := hx.trK hb; clear hx) | have nx := hb); clear hb; try clear hs; try clear g0; try clear g1; have hx := nx; clear nx; have hs := ns; clear ns; have g0 := n0; clear n0; have g1 := n1; clear n1) | (go_at_call 16; (with_reducible refine (FO.out _).mono ?_); rintro rv w1 ⟨rfl, hb⟩; have ns : w.heap.size < w1.heap.size := hb.ltK; have n0 : w1.cell? ⟨w.heap.size, 0, none⟩ = some (.int .i64 e) := hb.cellK; have n1 : w1.cell? ⟨w.heap.size, 1, none⟩ = some (.int .i64 f) := hb.cellK; (first | (have nx := hx.trK hb; clear hx) | have nx := hb); clear hb; try clear hs; try clear g0; try clear g1; have hx := nx; clear nx; have hs := ns; clear ns; have g0 := n0; clear n0; have g1 := n1; clear n1)))
      all_goals go_wp2_with fail
      all_goals exact bodyPost_ret (v := .tuple #[.int .i64 (q), .bool true]) (by simp [results, Tryz.results5, go_sem, *]) rfl ⟨rfl, Ext.auK⟩
    · by_cases h0 : 0 < s.size
      · have q0 : (0 : Int) < (s.size : Int) := by omega
        have hcb : (((s[0]'h0).toNat : Int) == 45) = false := by have := hc h0; simp; omega
        clear hc
        go_enter Tryz.func5, Tryz.ntmps5
        go_wp2_with (first | (go_at_call 14; (with_reducible refine (GA.out _).mono ?_); rintro rv w1 ⟨rfl, hb⟩; have ns : w.heap.size < w1.heap.size := hb.ltK; have n0 : w1.cell? ⟨w.heap.size, 0, none⟩ = some (.int .i64 e) := hb.cellK; have n1 : w1.cell? ⟨w.heap.size, 1, none⟩ = some (.int .i64 f) := hb.cellK; (first | (have nx := hx.trK hb; clear hx) | have nx := hb); clear hb; try clear hs; try clear g0; try clear g1; have hx := nx; clear nx; have hs := ns; clear ns; have g0 := n0; clear n0; have g1 := n1; clear n1) | (go_at_call 18; refine (LS.out _).mono ?_; rintro rv w1 ⟨v, rfl, OWN0, hb⟩; have OWN : World.ownsRow w1 _ _ 1 v 2 _ := OWN0; clear OWN0; obtain ⟨gg, cp, rfl, og1, og2⟩ := World.ownsRow.form OWN (by decide); have c0 := OWN.cellAt 0 (by decide); have c1 := OWN.cellAt 1 (by decide); simp only [rwT, List.map_cons, List.map_nil, List.getElem?_cons_zero, List.getElem?_cons_succ] at c0 c1; clear OWN; have k9s : w.heap.size < w1.heap.size := hb.ltK; have k90 : w1.cell? ⟨w.heap.size, 0, none⟩ = some (.int .i64 e) := (hb.cells _ _ (by first | with_reducible assumption | omega | (simp; done) | (simp; omega))).trans (by first | with_reducible assumption | (simp; done) | (simp; with_reducible assumption) | (simp [go_sem, *]; done)); have k91 : w1.cell? ⟨w.heap.size, 1, none⟩ = some (.int .i64 f) := (hb.cells _ _ (by first | with_reducible assumption | omega | (simp; done) | (simp; omega))).trans (by first | with_reducible assumption | (simp; done) | (simp; with_reducible assumption) | (simp [go_sem, *]; done)); have k9x : Ext w w1 := Ext.auK; (try clear hx); (try clear nx); (try clear hs); (try clear ns); (try clear g0); (try clear n0); (try clear g1); (try clear n1); (try clear hb); have hx := k9x; clear k9x; have hs := k9s; clear k9s; have g0 := k90; clear k90; have g1 := k91; clear k91) | (go_at_call 19; (with_reducible refine (R0.out _).mono ?_); rintro rv w1 ⟨rfl, rfl⟩) | (go_at_call 19; (with_reducible refine (R1.out _).mono ?_); rintro rv w1 ⟨rfl, rfl⟩) | (go_at_call 20; (with_reducible refine (TD.out _).mono ?_); rintro rv w1 ⟨rfl, hb⟩; have ns : w.heap.size < w1.heap.size := hb.ltK; have n0 : w1.cell? ⟨w.heap.size, 0, none⟩ = some (.int .i64 e) := hb.cellK; have n1 : w1.cell? ⟨w.heap.size, 1, none⟩ = some (.int .i64 f) := hb.cellK; (first | (have nx := hx.trK hb; clear hx) | have nx := hb); clear hb; try clear hs; try clear g0; try clear g1; have hx := nx; clear nx; have hs := ns; clear ns; have g0 := n0; clear n0; have g1 := n1; clear n1))
        go_region_held3 (fun w' => w'.cell? ⟨w.heap.size, 0, none⟩ = some (.int .i64 e) ∧ w'.cell? ⟨w.heap.size, 1, none⟩ = some (.int .i64 f) ∧ w.heap.size < w'.heap.size) ((refine ⟨?_, ?_, ?_⟩ <;> first | with_reducible assumption | ((rw [cell_setRow_far _ _ _ _ _ (by omega)]); with_reducible assumption) | ((rw [setRow_size]); with_reducible assumption) | ((repeat rw [World.cell?_setCell_far _ _ _ _ (by simp)]); with_reducible assumption) | (simp; done) | (simp [World.setCell]; first | done | omega) | (simp [go_sem, World.cell?_alloc_past, World.cell?_setCell_far, *]; done))) ((first | (go_at_call 21; (with_reducible refine (TR.out _).mono ?_); rintro rv w1 ⟨rfl, hb⟩; have ns : w.heap.size < w1.heap.size := hb.ltK; have n0 : w1.cell? ⟨w.heap.size, 0, none⟩ = some (.int .i64 e) := hb.cellK; have n1 : w1.cell? ⟨w.heap.size, 1, none⟩ = some (.int .i64 f) := hb.cellK; (first | (have nx := hx.trK hb; clear hx) | have nx := hb); clear hb; try clear hs; try clear g0; try clear g1; have hx := nx; clear nx; have hs := ns; clear ns; have g0 := n0; clear n0; have g1 := n1; clear n1) | (go_at_call 16; (with_reducible refine (FO.out _).mono ?_); rintro rv w1 ⟨rfl, hb⟩; have ns : w.heap.size < w1.heap.size := hb.ltK; have n0 : w1.cell? ⟨w.heap.size, 0, none⟩ = some (.int .i64 e) := hb.cellK; have n1 : w1.cell? ⟨w.heap.size, 1, none⟩ = some (.int .i64 f) := hb.cellK; (first | (have nx := hx.trK hb; clear hx) | have nx := hb); clear hb; try clear hs; try clear g0; try clear g1; have hx := nx; clear nx; have hs := ns; clear ns; have g0 := n0; clear n0; have g1 := n1; clear n1)))
        all_goals go_wp2_with fail
        all_goals exact bodyPost_ret (v := .tuple #[.int .i64 (q), .bool true]) (by simp [results, Tryz.results5, go_sem, *]) rfl ⟨rfl, Ext.auK⟩
      · have q0 : ¬ (0 : Int) < (s.size : Int) := by omega
        clear hc
        go_enter Tryz.func5, Tryz.ntmps5
        go_wp2_with (first | (go_at_call 14; (with_reducible refine (GA.out _).mono ?_); rintro rv w1 ⟨rfl, hb⟩; have ns : w.heap.size < w1.heap.size := hb.ltK; have n0 : w1.cell? ⟨w.heap.size, 0, none⟩ = some (.int .i64 e) := hb.cellK; have n1 : w1.cell? ⟨w.heap.size, 1, none⟩ = some (.int .i64 f) := hb.cellK; (first | (have nx := hx.trK hb; clear hx) | have nx := hb); clear hb; try clear hs; try clear g0; try clear g1; have hx := nx; clear nx; have hs := ns; clear ns; have g0 := n0; clear n0; have g1 := n1; clear n1) | (go_at_call 18; refine (LS.out _).mono ?_; rintro rv w1 ⟨v, rfl, OWN0, hb⟩; have OWN : World.ownsRow w1 _ _ 1 v 2 _ := OWN0; clear OWN0; obtain ⟨gg, cp, rfl, og1, og2⟩ := World.ownsRow.form OWN (by decide); have c0 := OWN.cellAt 0 (by decide); have c1 := OWN.cellAt 1 (by decide); simp only [rwT, List.map_cons, List.map_nil, List.getElem?_cons_zero, List.getElem?_cons_succ] at c0 c1; clear OWN; have k9s : w.heap.size < w1.heap.size := hb.ltK; have k90 : w1.cell? ⟨w.heap.size, 0, none⟩ = some (.int .i64 e) := (hb.cells _ _ (by first | with_reducible assumption | omega | (simp; done) | (simp; omega))).trans (by first | with_reducible assumption | (simp; done) | (simp; with_reducible assumption) | (simp [go_sem, *]; done)); have k91 : w1.cell? ⟨w.heap.size, 1, none⟩ = some (.int .i64 f) := (hb.cells _ _ (by first | with_reducible assumption | omega | (simp; done) | (simp; omega))).trans (by first | with_reducible assumption | (simp; done) | (simp; with_reducible assumption) | (simp [go_sem, *]; done)); have k9x : Ext w w1 := Ext.auK; (try clear hx); (try clear nx); (try clear hs); (try clear ns); (try clear g0); (try clear n0); (try clear g1); (try clear n1); (try clear hb); have hx := k9x; clear k9x; have hs := k9s; clear k9s; have g0 := k90; clear k90; have g1 := k91; clear k91) | (go_at_call 19; (with_reducible refine (R0.out _).mono ?_); rintro rv w1 ⟨rfl, rfl⟩) | (go_at_call 19; (with_reducible refine (R1.out _).mono ?_); rintro rv w1 ⟨rfl, rfl⟩) | (go_at_call 20; (with_reducible refine (TD.out _).mono ?_); rintro rv w1 ⟨rfl, hb⟩; have ns : w.heap.size < w1.heap.size := hb.ltK; have n0 : w1.cell? ⟨w.heap.size, 0, none⟩ = some (.int .i64 e) := hb.cellK; have n1 : w1.cell? ⟨w.heap.size, 1, none⟩ = some (.int .i64 f) := hb.cellK; (first | (have nx := hx.trK hb; clear hx) | have nx := hb); clear hb; try clear hs; try clear g0; try clear g1; have hx := nx; clear nx; have hs := ns; clear ns; have g0 := n0; clear n0; have g1 := n1; clear n1))
        go_region_held3 (fun w' => w'.cell? ⟨w.heap.size, 0, none⟩ = some (.int .i64 e) ∧ w'.cell? ⟨w.heap.size, 1, none⟩ = some (.int .i64 f) ∧ w.heap.size < w'.heap.size) ((refine ⟨?_, ?_, ?_⟩ <;> first | with_reducible assumption | ((rw [cell_setRow_far _ _ _ _ _ (by omega)]); with_reducible assumption) | ((rw [setRow_size]); with_reducible assumption) | ((repeat rw [World.cell?_setCell_far _ _ _ _ (by simp)]); with_reducible assumption) | (simp; done) | (simp [World.setCell]; first | done | omega) | (simp [go_sem, World.cell?_alloc_past, World.cell?_setCell_far, *]; done))) ((first | (go_at_call 21; (with_reducible refine (TR.out _).mono ?_); rintro rv w1 ⟨rfl, hb⟩; have ns : w.heap.size < w1.heap.size := hb.ltK; have n0 : w1.cell? ⟨w.heap.size, 0, none⟩ = some (.int .i64 e) := hb.cellK; have n1 : w1.cell? ⟨w.heap.size, 1, none⟩ = some (.int .i64 f) := hb.cellK; (first | (have nx := hx.trK hb; clear hx) | have nx := hb); clear hb; try clear hs; try clear g0; try clear g1; have hx := nx; clear nx; have hs := ns; clear ns; have g0 := n0; clear n0; have g1 := n1; clear n1) | (go_at_call 16; (with_reducible refine (FO.out _).mono ?_); rintro rv w1 ⟨rfl, hb⟩; have ns : w.heap.size < w1.heap.size := hb.ltK; have n0 : w1.cell? ⟨w.heap.size, 0, none⟩ = some (.int .i64 e) := hb.cellK; have n1 : w1.cell? ⟨w.heap.size, 1, none⟩ = some (.int .i64 f) := hb.cellK; (first | (have nx := hx.trK hb; clear hx) | have nx := hb); clear hb; try clear hs; try clear g0; try clear g1; have hx := nx; clear nx; have hs := ns; clear ns; have g0 := n0; clear n0; have g1 := n1; clear n1)))
        all_goals go_wp2_with fail
        all_goals exact bodyPost_ret (v := .tuple #[.int .i64 (q), .bool true]) (by simp [results, Tryz.results5, go_sem, *]) rfl ⟨rfl, Ext.auK⟩
  · obtain ⟨y4, y5⟩ := y3 (by omega)
    have hcb2 : (((p1[0]'h1).toNat : Int) == 45) = true := by simp; omega
    have RR1 := fun w => l1Read_any (p1.extract 1 p1.size) (by simp; omega) w
    rw [y5] at RR1
    have R1 := Lib.hid RR1
    have h1i : (0 : Int) < (p1.size : Int) := by omega
    have SL2 : ∀ w, (Instr.slice 9 (.string p1) (some (.int .i64 1)) none none).run Tryz.prog w = .ok (.string (p1.extract 1 p1.size)) w := fun w => by rw [run_slice_string_from_if _ _ _ _ _ Tryz.underlying9, if_pos ⟨by omega, by omega⟩]; rfl
    obtain ⟨k, rfl⟩ : ∃ k, t = -k := ⟨-t, by omega⟩
    rw [Int.neg_neg] at R1
    generalize p1.extract 1 p1.size = p2 at *
    have hk : ¬ (0 : Int) ≤ -k := by omega
    have hk2 : IntKind.i64.wrap (-k) = -k := IntWalk.i64_in _ (by omega)
    clear RR1 y1 y2 y3 y4 y5 rc hdc e0 e1 hsp hsh hi hg hn z1 z2 p1s hb hbl hbl1 hbl2 hbl3 ht
    rcases SG with ⟨h0, hc, rfl, hs1⟩ | ⟨hc, rfl, rfl⟩
    · have q0 : (0 : Int) < (s.size : Int) := by omega
      have hcb : (((s[0]'h0).toNat : Int) == 45) = true := by simp; omega
      have SL1 : ∀ w, (Instr.slice 9 (.string s) (some (.int .i64 1)) none none).run Tryz.prog w = .ok (.string s1) w := fun w => by rw [run_slice_string_from_if _ _ _ _ _ Tryz.underlying9, if_pos ⟨by omega, by omega⟩, ← hs1]; rfl
      clear hc hs1
      go_enter Tryz.func5, Tryz.ntmps5
      go_wp2_with (first | (go_at_call 14; (with_reducible refine (GA.out _).mono ?_); rintro rv w1 ⟨rfl, hb⟩; have ns : w.heap.size < w1.heap.size := hb.ltK; have n0 : w1.cell? ⟨w.heap.size, 0, none⟩ = some (.int .i64 e) := hb.cellK; have n1 : w1.cell? ⟨w.heap.size, 1, none⟩ = some (.int .i64 f) := hb.cellK; (first | (have nx := hx.trK hb; clear hx) | have nx := hb); clear hb; try clear hs; try clear g0; try clear g1; have hx := nx; clear nx; have hs := ns; clear ns; have g0 := n0; clear n0; have g1 := n1; clear n1) | (go_at_call 18; refine (LS.out _).mono ?_; rintro rv w1 ⟨v, rfl, OWN0, hb⟩; have OWN : World.ownsRow w1 _ _ 1 v 2 _ := OWN0; clear OWN0; obtain ⟨gg, cp, rfl, og1, og2⟩ := World.ownsRow.form OWN (by decide); have c0 := OWN.cellAt 0 (by decide); have c1 := OWN.cellAt 1 (by decide); simp only [rwT, List.map_cons, List.map_nil, List.getElem?_cons_zero, List.getElem?_cons_succ] at c0 c1; clear OWN; have k9s : w.heap.size < w1.heap.size := hb.ltK; have k90 : w1.cell? ⟨w.heap.size, 0, none⟩ = some (.int .i64 e) := (hb.cells _ _ (by first | with_reducible assumption | omega | (simp; done) | (simp; omega))).trans (by first | with_reducible assumption | (simp; done) | (simp; with_reducible assumption) | (simp [go_sem, *]; done)); have k91 : w1.cell? ⟨w.heap.size, 1, none⟩ = some (.int .i64 f) := (hb.cells _ _ (by first | with_reducible assumption | omega | (simp; done) | (simp; omega))).trans (by first | with_reducible assumption | (simp; done) | (simp; with_reducible assumption) | (simp [go_sem, *]; done)); have k9x : Ext w w1 := Ext.auK; (try clear hx); (try clear nx); (try clear hs); (try clear ns); (try clear g0); (try clear n0); (try clear g1); (try clear n1); (try clear hb); have hx := k9x; clear k9x; have hs := k9s; clear k9s; have g0 := k90; clear k90; have g1 := k91; clear k91) | (go_at_call 19; (with_reducible refine (R0.out _).mono ?_); rintro rv w1 ⟨rfl, rfl⟩) | (go_at_call 19; (with_reducible refine (R1.out _).mono ?_); rintro rv w1 ⟨rfl, rfl⟩) | (go_at_call 20; (with_reducible refine (TD.out _).mono ?_); rintro rv w1 ⟨rfl, hb⟩; have ns : w.heap.size < w1.heap.size := hb.ltK; have n0 : w1.cell? ⟨w.heap.size, 0, none⟩ = some (.int .i64 e) := hb.cellK; have n1 : w1.cell? ⟨w.heap.size, 1, none⟩ = some (.int .i64 f) := hb.cellK; (first | (have nx := hx.trK hb; clear hx) | have nx := hb); clear hb; try clear hs; try clear g0; try clear g1; have hx := nx; clear nx; have hs := ns; clear ns; have g0 := n0; clear n0; have g1 := n1; clear n1))
      go_region_held3 (fun w' => w'.cell? ⟨w.heap.size, 0, none⟩ = some (.int .i64 e) ∧ w'.cell? ⟨w.heap.size, 1, none⟩ = some (.int .i64 f) ∧ w.heap.size < w'.heap.size) ((refine ⟨?_, ?_, ?_⟩ <;> first | with_reducible assumption | ((rw [cell_setRow_far _ _ _ _ _ (by omega)]); with_reducible assumption) | ((rw [setRow_size]); with_reducible assumption) | ((repeat rw [World.cell?_setCell_far _ _ _ _ (by simp)]); with_reducible assumption) | (simp; done) | (simp [World.setCell]; first | done | omega) | (simp [go_sem, World.cell?_alloc_past, World.cell?_setCell_far, *]; done))) ((first | (go_at_call 21; (with_reducible refine (TR.out _).mono ?_); rintro rv w1 ⟨rfl, hb⟩; have ns : w.heap.size < w1.heap.size := hb.ltK; have n0 : w1.cell? ⟨w.heap.size, 0, none⟩ = some (.int .i64 e) := hb.cellK; have n1 : w1.cell? ⟨w.heap.size, 1, none⟩ = some (.int .i64 f) := hb.cellK; (first | (have nx := hx.trK hb; clear hx) | have nx := hb); clear hb; try clear hs; try clear g0; try clear g1; have hx := nx; clear nx; have hs := ns; clear ns; have g0 := n0; clear n0; have g1 := n1; clear n1) | (go_at_call 16; (with_reducible refine (FO.out _).mono ?_); rintro rv w1 ⟨rfl, hb⟩; have ns : w.heap.size < w1.heap.size := hb.ltK; have n0 : w1.cell? ⟨w.heap.size, 0, none⟩ = some (.int .i64 e) := hb.cellK; have n1 : w1.cell? ⟨w.heap.size, 1, none⟩ = some (.int .i64 f) := hb.cellK; (first | (have nx := hx.trK hb; clear hx) | have nx := hb); clear hb; try clear hs; try clear g0; try clear g1; have hx := nx; clear nx; have hs := ns; clear ns; have g0 := n0; clear n0; have g1 := n1; clear n1)))
      all_goals go_wp2_with fail
      all_goals exact bodyPost_ret (v := .tuple #[.int .i64 (q), .bool true]) (by simp [results, Tryz.results5, go_sem, *]) rfl ⟨rfl, Ext.auK⟩
    · by_cases h0 : 0 < s.size
      · have q0 : (0 : Int) < (s.size : Int) := by omega
        have hcb : (((s[0]'h0).toNat : Int) == 45) = false := by have := hc h0; simp; omega
        clear hc
        go_enter Tryz.func5, Tryz.ntmps5
        go_wp2_with (first | (go_at_call 14; (with_reducible refine (GA.out _).mono ?_); rintro rv w1 ⟨rfl, hb⟩; have ns : w.heap.size < w1.heap.size := hb.ltK; have n0 : w1.cell? ⟨w.heap.size, 0, none⟩ = some (.int .i64 e) := hb.cellK; have n1 : w1.cell? ⟨w.heap.size, 1, none⟩ = some (.int .i64 f) := hb.cellK; (first | (have nx := hx.trK hb; clear hx) | have nx := hb); clear hb; try clear hs; try clear g0; try clear g1; have hx := nx; clear nx; have hs := ns; clear ns; have g0 := n0; clear n0; have g1 := n1; clear n1) | (go_at_call 18; refine (LS.out _).mono ?_; rintro rv w1 ⟨v, rfl, OWN0, hb⟩; have OWN : World.ownsRow w1 _ _ 1 v 2 _ := OWN0; clear OWN0; obtain ⟨gg, cp, rfl, og1, og2⟩ := World.ownsRow.form OWN (by decide); have c0 := OWN.cellAt 0 (by decide); have c1 := OWN.cellAt 1 (by decide); simp only [rwT, List.map_cons, List.map_nil, List.getElem?_cons_zero, List.getElem?_cons_succ] at c0 c1; clear OWN; have k9s : w.heap.size < w1.heap.size := hb.ltK; have k90 : w1.cell? ⟨w.heap.size, 0, none⟩ = some (.int .i64 e) := (hb.cells _ _ (by first | with_reducible assumption | omega | (simp; done) | (simp; omega))).trans (by first | with_reducible assumption | (simp; done) | (simp; with_reducible assumption) | (simp [go_sem, *]; done)); have k91 : w1.cell? ⟨w.heap.size, 1, none⟩ = some (.int .i64 f) := (hb.cells _ _ (by first | with_reducible assumption | omega | (simp; done) | (simp; omega))).trans (by first | with_reducible assumption | (simp; done) | (simp; with_reducible assumption) | (simp [go_sem, *]; done)); have k9x : Ext w w1 := Ext.auK; (try clear hx); (try clear nx); (try clear hs); (try clear ns); (try clear g0); (try clear n0); (try clear g1); (try clear n1); (try clear hb); have hx := k9x; clear k9x; have hs := k9s; clear k9s; have g0 := k90; clear k90; have g1 := k91; clear k91) | (go_at_call 19; (with_reducible refine (R0.out _).mono ?_); rintro rv w1 ⟨rfl, rfl⟩) | (go_at_call 19; (with_reducible refine (R1.out _).mono ?_); rintro rv w1 ⟨rfl, rfl⟩) | (go_at_call 20; (with_reducible refine (TD.out _).mono ?_); rintro rv w1 ⟨rfl, hb⟩; have ns : w.heap.size < w1.heap.size := hb.ltK; have n0 : w1.cell? ⟨w.heap.size, 0, none⟩ = some (.int .i64 e) := hb.cellK; have n1 : w1.cell? ⟨w.heap.size, 1, none⟩ = some (.int .i64 f) := hb.cellK; (first | (have nx := hx.trK hb; clear hx) | have nx := hb); clear hb; try clear hs; try clear g0; try clear g1; have hx := nx; clear nx; have hs := ns; clear ns; have g0 := n0; clear n0; have g1 := n1; clear n1))
        go_region_held3 (fun w' => w'.cell? ⟨w.heap.size, 0, none⟩ = some (.int .i64 e) ∧ w'.cell? ⟨w.heap.size, 1, none⟩ = some (.int .i64 f) ∧ w.heap.size < w'.heap.size) ((refine ⟨?_, ?_, ?_⟩ <;> first | with_reducible assumption | ((rw [cell_setRow_far _ _ _ _ _ (by omega)]); with_reducible assumption) | ((rw [setRow_size]); with_reducible assumption) | ((repeat rw [World.cell?_setCell_far _ _ _ _ (by simp)]); with_reducible assumption) | (simp; done) | (simp [World.setCell]; first | done | omega) | (simp [go_sem, World.cell?_alloc_past, World.cell?_setCell_far, *]; done))) ((first | (go_at_call 21; (with_reducible refine (TR.out _).mono ?_); rintro rv w1 ⟨rfl, hb⟩; have ns : w.heap.size < w1.heap.size := hb.ltK; have n0 : w1.cell? ⟨w.heap.size, 0, none⟩ = some (.int .i64 e) := hb.cellK; have n1 : w1.cell? ⟨w.heap.size, 1, none⟩ = some (.int .i64 f) := hb.cellK; (first | (have nx := hx.trK hb; clear hx) | have nx := hb); clear hb; try clear hs; try clear g0; try clear g1; have hx := nx; clear nx; have hs := ns; clear ns; have g0 := n0; clear n0; have g1 := n1; clear n1) | (go_at_call 16; (with_reducible refine (FO.out _).mono ?_); rintro rv w1 ⟨rfl, hb⟩; have ns : w.heap.size < w1.heap.size := hb.ltK; have n0 : w1.cell? ⟨w.heap.size, 0, none⟩ = some (.int .i64 e) := hb.cellK; have n1 : w1.cell? ⟨w.heap.size, 1, none⟩ = some (.int .i64 f) := hb.cellK; (first | (have nx := hx.trK hb; clear hx) | have nx := hb); clear hb; try clear hs; try clear g0; try clear g1; have hx := nx; clear nx; have hs := ns; clear ns; have g0 := n0; clear n0; have g1 := n1; clear n1)))
        all_goals go_wp2_with fail
        all_goals exact bodyPost_ret (v := .tuple #[.int .i64 (q), .bool true]) (by simp [results, Tryz.results5, go_sem, *]) rfl ⟨rfl, Ext.auK⟩
      · have q0 : ¬ (0 : Int) < (s.size : Int) := by omega
        clear hc
        go_enter Tryz.func5, Tryz.ntmps5
        go_wp2_with (first | (go_at_call 14; (with_reducible refine (GA.out _).mono ?_); rintro rv w1 ⟨rfl, hb⟩; have ns : w.heap.size < w1.heap.size := hb.ltK; have n0 : w1.cell? ⟨w.heap.size, 0, none⟩ = some (.int .i64 e) := hb.cellK; have n1 : w1.cell? ⟨w.heap.size, 1, none⟩ = some (.int .i64 f) := hb.cellK; (first | (have nx := hx.trK hb; clear hx) | have nx := hb); clear hb; try clear hs; try clear g0; try clear g1; have hx := nx; clear nx; have hs := ns; clear ns; have g0 := n0; clear n0; have g1 := n1; clear n1) | (go_at_call 18; refine (LS.out _).mono ?_; rintro rv w1 ⟨v, rfl, OWN0, hb⟩; have OWN : World.ownsRow w1 _ _ 1 v 2 _ := OWN0; clear OWN0; obtain ⟨gg, cp, rfl, og1, og2⟩ := World.ownsRow.form OWN (by decide); have c0 := OWN.cellAt 0 (by decide); have c1 := OWN.cellAt 1 (by decide); simp only [rwT, List.map_cons, List.map_nil, List.getElem?_cons_zero, List.getElem?_cons_succ] at c0 c1; clear OWN; have k9s : w.heap.size < w1.heap.size := hb.ltK; have k90 : w1.cell? ⟨w.heap.size, 0, none⟩ = some (.int .i64 e) := (hb.cells _ _ (by first | with_reducible assumption | omega | (simp; done) | (simp; omega))).trans (by first | with_reducible assumption | (simp; done) | (simp; with_reducible assumption) | (simp [go_sem, *]; done)); have k91 : w1.cell? ⟨w.heap.size, 1, none⟩ = some (.int .i64 f) := (hb.cells _ _ (by first | with_reducible assumption | omega | (simp; done) | (simp; omega))).trans (by first | with_reducible assumption | (simp; done) | (simp; with_reducible assumption) | (simp [go_sem, *]; done)); have k9x : Ext w w1 := Ext.auK; (try clear hx); (try clear nx); (try clear hs); (try clear ns); (try clear g0); (try clear n0); (try clear g1); (try clear n1); (try clear hb); have hx := k9x; clear k9x; have hs := k9s; clear k9s; have g0 := k90; clear k90; have g1 := k91; clear k91) | (go_at_call 19; (with_reducible refine (R0.out _).mono ?_); rintro rv w1 ⟨rfl, rfl⟩) | (go_at_call 19; (with_reducible refine (R1.out _).mono ?_); rintro rv w1 ⟨rfl, rfl⟩) | (go_at_call 20; (with_reducible refine (TD.out _).mono ?_); rintro rv w1 ⟨rfl, hb⟩; have ns : w.heap.size < w1.heap.size := hb.ltK; have n0 : w1.cell? ⟨w.heap.size, 0, none⟩ = some (.int .i64 e) := hb.cellK; have n1 : w1.cell? ⟨w.heap.size, 1, none⟩ = some (.int .i64 f) := hb.cellK; (first | (have nx := hx.trK hb; clear hx) | have nx := hb); clear hb; try clear hs; try clear g0; try clear g1; have hx := nx; clear nx; have hs := ns; clear ns; have g0 := n0; clear n0; have g1 := n1; clear n1))
        go_region_held3 (fun w' => w'.cell? ⟨w.heap.size, 0, none⟩ = some (.int .i64 e) ∧ w'.cell? ⟨w.heap.size, 1, none⟩ = some (.int .i64 f) ∧ w.heap.size < w'.heap.size) ((refine ⟨?_, ?_, ?_⟩ <;> first | with_reducible assumption | ((rw [cell_setRow_far _ _ _ _ _ (by omega)]); with_reducible assumption) | ((rw [setRow_size]); with_reducible assumption) | ((repeat rw [World.cell?_setCell_far _ _ _ _ (by simp)]); with_reducible assumption) | (simp; done) | (simp [World.setCell]; first | done | omega) | (simp [go_sem, World.cell?_alloc_past, World.cell?_setCell_far, *]; done))) ((first | (go_at_call 21; (with_reducible refine (TR.out _).mono ?_); rintro rv w1 ⟨rfl, hb⟩; have ns : w.heap.size < w1.heap.size := hb.ltK; have n0 : w1.cell? ⟨w.heap.size, 0, none⟩ = some (.int .i64 e) := hb.cellK; have n1 : w1.cell? ⟨w.heap.size, 1, none⟩ = some (.int .i64 f) := hb.cellK; (first | (have nx := hx.trK hb; clear hx) | have nx := hb); clear hb; try clear hs; try clear g0; try clear g1; have hx := nx; clear nx; have hs := ns; clear ns; have g0 := n0; clear n0; have g1 := n1; clear n1) | (go_at_call 16; (with_reducible refine (FO.out _).mono ?_); rintro rv w1 ⟨rfl, hb⟩; have ns : w.heap.size < w1.heap.size := hb.ltK; have n0 : w1.cell? ⟨w.heap.size, 0, none⟩ = some (.int .i64 e) := hb.cellK; have n1 : w1.cell? ⟨w.heap.size, 1, none⟩ = some (.int .i64 f) := hb.cellK; (first | (have nx := hx.trK hb; clear hx) | have nx := hb); clear hb; try clear hs; try clear g0; try clear g1; have hx := nx; clear nx; have hs := ns; clear ns; have g0 := n0; clear n0; have g1 := n1; clear n1)))
        all_goals go_wp2_with fail
        all_goals exact bodyPost_ret (v := .tuple #[.int .i64 (q), .bool true]) (by simp [results, Tryz.results5, go_sem, *]) rfl ⟨rfl, Ext.auK⟩

set_option maxHeartbeats 6400000 in
theorem sPS_no1 (e f : Int) (s s1 : ByteArray) (u : Int) (hg : goodB e f = true) (hs20 : s.size ≤ 20) (hn : s.data.toList ≠ [110, 97, 110]) (SG : Sgn s u s1) (hi : s1.data.toList ≠ [105, 110, 102]) (hl : (spV s1).length ≠ 2) (w : World) : Calls Tryz.prog 5 #[fmt e f, .string s] w fun rv w' => rv = .returned (.tuple #[.int .i64 0, .bool false]) ∧ Ext w w' := by
  have GA := fun w => fmGood_any e f w
  rw [hg] at GA
  have GA := Lib.hid GA
  have q20 : ¬ (20 : Int) < (s.size : Int) := by omega
  have qn : (s.toList == [110, 97, 110]) = false := by rw [beq_eq_false_iff_ne, ByteArray.toList_eq]; exact hn
  obtain ⟨z1, z2⟩ := sgn_bd SG
  have hI : (s1.toList == [105, 110, 102]) = false := by rw [beq_eq_false_iff_ne, ByteArray.toList_eq]; exact hi
  have LS := fun w => l1Split_row s1 (by omega) w
  have LS := Lib.hid LS
  have hL : 0 < (spV s1).length := by rw [spV_len]; omega
  have hl2 : (((spV s1).length : Int) == 2) = false := by simp; omega
  have hl3 : ¬ ((spV s1).length : Int) = 2 := by omega
  clear hi hg hn z1 z2 hl
  generalize (spV s1).length = n at *
  generalize rwT (spV s1) = R at *
  rcases SG with ⟨h0, hc, rfl, hs1⟩ | ⟨hc, rfl, rfl⟩
  · have q0 : (0 : Int) < (s.size : Int) := by omega
    have hcb : (((s[0]'h0).toNat : Int) == 45) = true := by simp; omega
    have SL1 : ∀ w, (Instr.slice 9 (.string s) (some (.int .i64 1)) none none).run Tryz.prog w = .ok (.string s1) w := fun w => by rw [run_slice_string_from_if _ _ _ _ _ Tryz.underlying9, if_pos ⟨by omega, by omega⟩, ← hs1]; rfl
    clear hc hs1
    go_enter Tryz.func5, Tryz.ntmps5
    go_wp2_with (first | (go_at_call 14; (with_reducible refine (GA.out _).mono ?_); rintro rv w1 ⟨rfl, hb⟩; have ns : w.heap.size < w1.heap.size := hb.ltK; have n0 : w1.cell? ⟨w.heap.size, 0, none⟩ = some (.int .i64 e) := hb.cellK; have n1 : w1.cell? ⟨w.heap.size, 1, none⟩ = some (.int .i64 f) := hb.cellK; (first | (have nx := hx.trK hb; clear hx) | have nx := hb); clear hb; try clear hs; try clear g0; try clear g1; have hx := nx; clear nx; have hs := ns; clear ns; have g0 := n0; clear n0; have g1 := n1; clear n1) | (go_at_call 18; refine (LS.out _).mono ?_; rintro rv w1 ⟨v, rfl, OWN, hb⟩; obtain ⟨gg, cp, rfl, og1, og2⟩ := World.ownsRow.form OWN hL; clear OWN; have k9s : w.heap.size < w1.heap.size := hb.ltK; have k90 : w1.cell? ⟨w.heap.size, 0, none⟩ = some (.int .i64 e) := (hb.cells _ _ (by first | with_reducible assumption | omega | (simp; done) | (simp; omega))).trans (by first | with_reducible assumption | (simp; done) | (simp; with_reducible assumption) | (simp [go_sem, *]; done)); have k91 : w1.cell? ⟨w.heap.size, 1, none⟩ = some (.int .i64 f) := (hb.cells _ _ (by first | with_reducible assumption | omega | (simp; done) | (simp; omega))).trans (by first | with_reducible assumption | (simp; done) | (simp; with_reducible assumption) | (simp [go_sem, *]; done)); have k9x : Ext w w1 := Ext.auK; (try clear hx); (try clear nx); (try clear hs); (try clear ns); (try clear g0); (try clear n0); (try clear g1); (try clear n1); (try clear hb); have hx := k9x; clear k9x; have hs := k9s; clear k9s; have g0 := k90; clear k90; have g1 := k91; clear k91))
    exact bodyPost_ret (v := .tuple #[.int .i64 0, .bool false]) (by simp [results, Tryz.results5, go_sem, *]) rfl ⟨rfl, Ext.auK⟩
  · by_cases h0 : 0 < s.size
    · have q0 : (0 : Int) < (s.size : Int) := by omega
      have hcb : (((s[0]'h0).toNat : Int) == 45) = false := by have := hc h0; simp; omega
      clear hc
      go_enter Tryz.func5, Tryz.ntmps5
      go_wp2_with (first | (go_at_call 14; (with_reducible refine (GA.out _).mono ?_); rintro rv w1 ⟨rfl, hb⟩; have ns : w.heap.size < w1.heap.size := hb.ltK; have n0 : w1.cell? ⟨w.heap.size, 0, none⟩ = some (.int .i64 e) := hb.cellK; have n1 : w1.cell? ⟨w.heap.size, 1, none⟩ = some (.int .i64 f) := hb.cellK; (first | (have nx := hx.trK hb; clear hx) | have nx := hb); clear hb; try clear hs; try clear g0; try clear g1; have hx := nx; clear nx; have hs := ns; clear ns; have g0 := n0; clear n0; have g1 := n1; clear n1) | (go_at_call 18; refine (LS.out _).mono ?_; rintro rv w1 ⟨v, rfl, OWN, hb⟩; obtain ⟨gg, cp, rfl, og1, og2⟩ := World.ownsRow.form OWN hL; clear OWN; have k9s : w.heap.size < w1.heap.size := hb.ltK; have k90 : w1.cell? ⟨w.heap.size, 0, none⟩ = some (.int .i64 e) := (hb.cells _ _ (by first | with_reducible assumption | omega | (simp; done) | (simp; omega))).trans (by first | with_reducible assumption | (simp; done) | (simp; with_reducible assumption) | (simp [go_sem, *]; done)); have k91 : w1.cell? ⟨w.heap.size, 1, none⟩ = some (.int .i64 f) := (hb.cells _ _ (by first | with_reducible assumption | omega | (simp; done) | (simp; omega))).trans (by first | with_reducible assumption | (simp; done) | (simp; with_reducible assumption) | (simp [go_sem, *]; done)); have k9x : Ext w w1 := Ext.auK; (try clear hx); (try clear nx); (try clear hs); (try clear ns); (try clear g0); (try clear n0); (try clear g1); (try clear n1); (try clear hb); have hx := k9x; clear k9x; have hs := k9s; clear k9s; have g0 := k90; clear k90; have g1 := k91; clear k91))
      exact bodyPost_ret (v := .tuple #[.int .i64 0, .bool false]) (by simp [results, Tryz.results5, go_sem, *]) rfl ⟨rfl, Ext.auK⟩
    · have q0 : ¬ (0 : Int) < (s.size : Int) := by omega
      clear hc
      go_enter Tryz.func5, Tryz.ntmps5
      go_wp2_with (first | (go_at_call 14; (with_reducible refine (GA.out _).mono ?_); rintro rv w1 ⟨rfl, hb⟩; have ns : w.heap.size < w1.heap.size := hb.ltK; have n0 : w1.cell? ⟨w.heap.size, 0, none⟩ = some (.int .i64 e) := hb.cellK; have n1 : w1.cell? ⟨w.heap.size, 1, none⟩ = some (.int .i64 f) := hb.cellK; (first | (have nx := hx.trK hb; clear hx) | have nx := hb); clear hb; try clear hs; try clear g0; try clear g1; have hx := nx; clear nx; have hs := ns; clear ns; have g0 := n0; clear n0; have g1 := n1; clear n1) | (go_at_call 18; refine (LS.out _).mono ?_; rintro rv w1 ⟨v, rfl, OWN, hb⟩; obtain ⟨gg, cp, rfl, og1, og2⟩ := World.ownsRow.form OWN hL; clear OWN; have k9s : w.heap.size < w1.heap.size := hb.ltK; have k90 : w1.cell? ⟨w.heap.size, 0, none⟩ = some (.int .i64 e) := (hb.cells _ _ (by first | with_reducible assumption | omega | (simp; done) | (simp; omega))).trans (by first | with_reducible assumption | (simp; done) | (simp; with_reducible assumption) | (simp [go_sem, *]; done)); have k91 : w1.cell? ⟨w.heap.size, 1, none⟩ = some (.int .i64 f) := (hb.cells _ _ (by first | with_reducible assumption | omega | (simp; done) | (simp; omega))).trans (by first | with_reducible assumption | (simp; done) | (simp; with_reducible assumption) | (simp [go_sem, *]; done)); have k9x : Ext w w1 := Ext.auK; (try clear hx); (try clear nx); (try clear hs); (try clear ns); (try clear g0); (try clear n0); (try clear g1); (try clear n1); (try clear hb); have hx := k9x; clear k9x; have hs := k9s; clear k9s; have g0 := k90; clear k90; have g1 := k91; clear k91))
      exact bodyPost_ret (v := .tuple #[.int .i64 0, .bool false]) (by simp [results, Tryz.results5, go_sem, *]) rfl ⟨rfl, Ext.auK⟩

set_option maxHeartbeats 6400000 in
theorem sPS_no2 (e f : Int) (s s1 : ByteArray) (u : Int) (hg : goodB e f = true) (hs20 : s.size ≤ 20) (hn : s.data.toList ≠ [110, 97, 110]) (SG : Sgn s u s1) (hi : s1.data.toList ≠ [105, 110, 102]) (p0 p1 : ByteArray) (hsp : spV s1 = [p0, p1]) (hp : p1.size = 0) (w : World) : Calls Tryz.prog 5 #[fmt e f, .string s] w fun rv w' => rv = .returned (.tuple #[.int .i64 0, .bool false]) ∧ Ext w w' := by
  have GA := fun w => fmGood_any e f w
  rw [hg] at GA
  have GA := Lib.hid GA
  have q20 : ¬ (20 : Int) < (s.size : Int) := by omega
  have qn : (s.toList == [110, 97, 110]) = false := by rw [beq_eq_false_iff_ne, ByteArray.toList_eq]; exact hn
  obtain ⟨z1, z2⟩ := sgn_bd SG
  have hI : (s1.toList == [105, 110, 102]) = false := by rw [beq_eq_false_iff_ne, ByteArray.toList_eq]; exact hi
  have LS := fun w => l1Split_row s1 (by omega) w
  rw [hsp] at LS
  have LS := Lib.hid LS
  have pe : (p1.toList == []) = true := by rw [beq_iff_eq, ByteArray.toList_eq]; apply List.eq_nil_of_length_eq_zero; rw [Array.length_toList]; exact hp
  clear hi hg hn z1 z2 hp hsp
  rcases SG with ⟨h0, hc, rfl, hs1⟩ | ⟨hc, rfl, rfl⟩
  · have q0 : (0 : Int) < (s.size : Int) := by omega
    have hcb : (((s[0]'h0).toNat : Int) == 45) = true := by simp; omega
    have SL1 : ∀ w, (Instr.slice 9 (.string s) (some (.int .i64 1)) none none).run Tryz.prog w = .ok (.string s1) w := fun w => by rw [run_slice_string_from_if _ _ _ _ _ Tryz.underlying9, if_pos ⟨by omega, by omega⟩, ← hs1]; rfl
    clear hc hs1
    go_enter Tryz.func5, Tryz.ntmps5
    go_wp2_with (first | (go_at_call 14; (with_reducible refine (GA.out _).mono ?_); rintro rv w1 ⟨rfl, hb⟩; have ns : w.heap.size < w1.heap.size := hb.ltK; have n0 : w1.cell? ⟨w.heap.size, 0, none⟩ = some (.int .i64 e) := hb.cellK; have n1 : w1.cell? ⟨w.heap.size, 1, none⟩ = some (.int .i64 f) := hb.cellK; (first | (have nx := hx.trK hb; clear hx) | have nx := hb); clear hb; try clear hs; try clear g0; try clear g1; have hx := nx; clear nx; have hs := ns; clear ns; have g0 := n0; clear n0; have g1 := n1; clear n1) | (go_at_call 18; refine (LS.out _).mono ?_; rintro rv w1 ⟨v, rfl, OWN0, hb⟩; have OWN : World.ownsRow w1 _ _ 1 v 2 _ := OWN0; clear OWN0; obtain ⟨gg, cp, rfl, og1, og2⟩ := World.ownsRow.form OWN (by decide); have c0 := OWN.cellAt 0 (by decide); have c1 := OWN.cellAt 1 (by decide); simp only [rwT, List.map_cons, List.map_nil, List.getElem?_cons_zero, List.getElem?_cons_succ] at c0 c1; clear OWN; have k9s : w.heap.size < w1.heap.size := hb.ltK; have k90 : w1.cell? ⟨w.heap.size, 0, none⟩ = some (.int .i64 e) := (hb.cells _ _ (by first | with_reducible assumption | omega | (simp; done) | (simp; omega))).trans (by first | with_reducible assumption | (simp; done) | (simp; with_reducible assumption) | (simp [go_sem, *]; done)); have k91 : w1.cell? ⟨w.heap.size, 1, none⟩ = some (.int .i64 f) := (hb.cells _ _ (by first | with_reducible assumption | omega | (simp; done) | (simp; omega))).trans (by first | with_reducible assumption | (simp; done) | (simp; with_reducible assumption) | (simp [go_sem, *]; done)); have k9x : Ext w w1 := Ext.auK; (try clear hx); (try clear nx); (try clear hs); (try clear ns); (try clear g0); (try clear n0); (try clear g1); (try clear n1); (try clear hb); have hx := k9x; clear k9x; have hs := k9s; clear k9s; have g0 := k90; clear k90; have g1 := k91; clear k91) | (go_at_call 19; (with_reducible refine (R0.out _).mono ?_); rintro rv w1 ⟨rfl, rfl⟩) | (go_at_call 19; (with_reducible refine (R1.out _).mono ?_); rintro rv w1 ⟨rfl, rfl⟩) | (go_at_call 20; (with_reducible refine (TD.out _).mono ?_); rintro rv w1 ⟨rfl, hb⟩; have ns : w.heap.size < w1.heap.size := hb.ltK; have n0 : w1.cell? ⟨w.heap.size, 0, none⟩ = some (.int .i64 e) := hb.cellK; have n1 : w1.cell? ⟨w.heap.size, 1, none⟩ = some (.int .i64 f) := hb.cellK; (first | (have nx := hx.trK hb; clear hx) | have nx := hb); clear hb; try clear hs; try clear g0; try clear g1; have hx := nx; clear nx; have hs := ns; clear ns; have g0 := n0; clear n0; have g1 := n1; clear n1))
    exact bodyPost_ret (v := .tuple #[.int .i64 0, .bool false]) (by simp [results, Tryz.results5, go_sem, *]) rfl ⟨rfl, Ext.auK⟩
  · by_cases h0 : 0 < s.size
    · have q0 : (0 : Int) < (s.size : Int) := by omega
      have hcb : (((s[0]'h0).toNat : Int) == 45) = false := by have := hc h0; simp; omega
      clear hc
      go_enter Tryz.func5, Tryz.ntmps5
      go_wp2_with (first | (go_at_call 14; (with_reducible refine (GA.out _).mono ?_); rintro rv w1 ⟨rfl, hb⟩; have ns : w.heap.size < w1.heap.size := hb.ltK; have n0 : w1.cell? ⟨w.heap.size, 0, none⟩ = some (.int .i64 e) := hb.cellK; have n1 : w1.cell? ⟨w.heap.size, 1, none⟩ = some (.int .i64 f) := hb.cellK; (first | (have nx := hx.trK hb; clear hx) | have nx := hb); clear hb; try clear hs; try clear g0; try clear g1; have hx := nx; clear nx; have hs := ns; clear ns; have g0 := n0; clear n0; have g1 := n1; clear n1) | (go_at_call 18; refine (LS.out _).mono ?_; rintro rv w1 ⟨v, rfl, OWN0, hb⟩; have OWN : World.ownsRow w1 _ _ 1 v 2 _ := OWN0; clear OWN0; obtain ⟨gg, cp, rfl, og1, og2⟩ := World.ownsRow.form OWN (by decide); have c0 := OWN.cellAt 0 (by decide); have c1 := OWN.cellAt 1 (by decide); simp only [rwT, List.map_cons, List.map_nil, List.getElem?_cons_zero, List.getElem?_cons_succ] at c0 c1; clear OWN; have k9s : w.heap.size < w1.heap.size := hb.ltK; have k90 : w1.cell? ⟨w.heap.size, 0, none⟩ = some (.int .i64 e) := (hb.cells _ _ (by first | with_reducible assumption | omega | (simp; done) | (simp; omega))).trans (by first | with_reducible assumption | (simp; done) | (simp; with_reducible assumption) | (simp [go_sem, *]; done)); have k91 : w1.cell? ⟨w.heap.size, 1, none⟩ = some (.int .i64 f) := (hb.cells _ _ (by first | with_reducible assumption | omega | (simp; done) | (simp; omega))).trans (by first | with_reducible assumption | (simp; done) | (simp; with_reducible assumption) | (simp [go_sem, *]; done)); have k9x : Ext w w1 := Ext.auK; (try clear hx); (try clear nx); (try clear hs); (try clear ns); (try clear g0); (try clear n0); (try clear g1); (try clear n1); (try clear hb); have hx := k9x; clear k9x; have hs := k9s; clear k9s; have g0 := k90; clear k90; have g1 := k91; clear k91) | (go_at_call 19; (with_reducible refine (R0.out _).mono ?_); rintro rv w1 ⟨rfl, rfl⟩) | (go_at_call 19; (with_reducible refine (R1.out _).mono ?_); rintro rv w1 ⟨rfl, rfl⟩) | (go_at_call 20; (with_reducible refine (TD.out _).mono ?_); rintro rv w1 ⟨rfl, hb⟩; have ns : w.heap.size < w1.heap.size := hb.ltK; have n0 : w1.cell? ⟨w.heap.size, 0, none⟩ = some (.int .i64 e) := hb.cellK; have n1 : w1.cell? ⟨w.heap.size, 1, none⟩ = some (.int .i64 f) := hb.cellK; (first | (have nx := hx.trK hb; clear hx) | have nx := hb); clear hb; try clear hs; try clear g0; try clear g1; have hx := nx; clear nx; have hs := ns; clear ns; have g0 := n0; clear n0; have g1 := n1; clear n1))
      exact bodyPost_ret (v := .tuple #[.int .i64 0, .bool false]) (by simp [results, Tryz.results5, go_sem, *]) rfl ⟨rfl, Ext.auK⟩
    · have q0 : ¬ (0 : Int) < (s.size : Int) := by omega
      clear hc
      go_enter Tryz.func5, Tryz.ntmps5
      go_wp2_with (first | (go_at_call 14; (with_reducible refine (GA.out _).mono ?_); rintro rv w1 ⟨rfl, hb⟩; have ns : w.heap.size < w1.heap.size := hb.ltK; have n0 : w1.cell? ⟨w.heap.size, 0, none⟩ = some (.int .i64 e) := hb.cellK; have n1 : w1.cell? ⟨w.heap.size, 1, none⟩ = some (.int .i64 f) := hb.cellK; (first | (have nx := hx.trK hb; clear hx) | have nx := hb); clear hb; try clear hs; try clear g0; try clear g1; have hx := nx; clear nx; have hs := ns; clear ns; have g0 := n0; clear n0; have g1 := n1; clear n1) | (go_at_call 18; refine (LS.out _).mono ?_; rintro rv w1 ⟨v, rfl, OWN0, hb⟩; have OWN : World.ownsRow w1 _ _ 1 v 2 _ := OWN0; clear OWN0; obtain ⟨gg, cp, rfl, og1, og2⟩ := World.ownsRow.form OWN (by decide); have c0 := OWN.cellAt 0 (by decide); have c1 := OWN.cellAt 1 (by decide); simp only [rwT, List.map_cons, List.map_nil, List.getElem?_cons_zero, List.getElem?_cons_succ] at c0 c1; clear OWN; have k9s : w.heap.size < w1.heap.size := hb.ltK; have k90 : w1.cell? ⟨w.heap.size, 0, none⟩ = some (.int .i64 e) := (hb.cells _ _ (by first | with_reducible assumption | omega | (simp; done) | (simp; omega))).trans (by first | with_reducible assumption | (simp; done) | (simp; with_reducible assumption) | (simp [go_sem, *]; done)); have k91 : w1.cell? ⟨w.heap.size, 1, none⟩ = some (.int .i64 f) := (hb.cells _ _ (by first | with_reducible assumption | omega | (simp; done) | (simp; omega))).trans (by first | with_reducible assumption | (simp; done) | (simp; with_reducible assumption) | (simp [go_sem, *]; done)); have k9x : Ext w w1 := Ext.auK; (try clear hx); (try clear nx); (try clear hs); (try clear ns); (try clear g0); (try clear n0); (try clear g1); (try clear n1); (try clear hb); have hx := k9x; clear k9x; have hs := k9s; clear k9s; have g0 := k90; clear k90; have g1 := k91; clear k91) | (go_at_call 19; (with_reducible refine (R0.out _).mono ?_); rintro rv w1 ⟨rfl, rfl⟩) | (go_at_call 19; (with_reducible refine (R1.out _).mono ?_); rintro rv w1 ⟨rfl, rfl⟩) | (go_at_call 20; (with_reducible refine (TD.out _).mono ?_); rintro rv w1 ⟨rfl, hb⟩; have ns : w.heap.size < w1.heap.size := hb.ltK; have n0 : w1.cell? ⟨w.heap.size, 0, none⟩ = some (.int .i64 e) := hb.cellK; have n1 : w1.cell? ⟨w.heap.size, 1, none⟩ = some (.int .i64 f) := hb.cellK; (first | (have nx := hx.trK hb; clear hx) | have nx := hb); clear hb; try clear hs; try clear g0; try clear g1; have hx := nx; clear nx; have hs := ns; clear ns; have g0 := n0; clear n0; have g1 := n1; clear n1))
      exact bodyPost_ret (v := .tuple #[.int .i64 0, .bool false]) (by simp [results, Tryz.results5, go_sem, *]) rfl ⟨rfl, Ext.auK⟩

set_option maxHeartbeats 6400000 in
theorem sPS_no3 (e f : Int) (s s1 : ByteArray) (u : Int) (hg : goodB e f = true) (hs20 : s.size ≤ 20) (hn : s.data.toList ≠ [110, 97, 110]) (SG : Sgn s u s1) (hi : s1.data.toList ≠ [105, 110, 102]) (p0 p1 : ByteArray) (hsp : spV s1 = [p0, p1]) (hp : 0 < p1.size) (hno : ∀ d t, ¬ ShT s1.data.toList d t) (w : World) : Calls Tryz.prog 5 #[fmt e f, .string s] w fun rv w' => rv = .returned (.tuple #[.int .i64 0, .bool false]) ∧ Ext w w' := by
  have GA := fun w => fmGood_any e f w
  rw [hg] at GA
  have GA := Lib.hid GA
  have q20 : ¬ (20 : Int) < (s.size : Int) := by omega
  have qn : (s.toList == [110, 97, 110]) = false := by rw [beq_eq_false_iff_ne, ByteArray.toList_eq]; exact hn
  obtain ⟨z1, z2⟩ := sgn_bd SG
  have hI : (s1.toList == [105, 110, 102]) = false := by rw [beq_eq_false_iff_ne, ByteArray.toList_eq]; exact hi
  have LS := fun w => l1Split_row s1 (by omega) w
  rw [hsp] at LS
  have LS := Lib.hid LS
  have pe : (p1.toList == []) = false := by
    rw [beq_eq_false_iff_ne, ByteArray.toList_eq]
    intro h
    have q : p1.data.toList.length = 0 := by rw [h]; rfl
    rw [Array.length_toList] at q
    have q2 : p1.data.size = p1.size := rfl
    omega
  have hb := spV_two s1 p0 p1 hsp
  have hbl := congrArg List.length hb.1
  simp only [List.length_append, List.length_cons, List.length_nil, Array.length_toList] at hbl
  have hbl1 : p0.data.size = p0.size := rfl
  have hbl2 : p1.data.size = p1.size := rfl
  have hbl3 : s1.data.size = s1.size := rfl
  have h1i : (0 : Int) < (p1.size : Int) := by omega
  have R0 := Lib.hid (fun w => l1Read_any p0 (by omega) w)
  obtain ⟨b1, b2⟩ := l1r_bd p0
  by_cases hm : (p1[0]'hp).toNat = 45
  · have hcb2 : (((p1[0]'hp).toNat : Int) == 45) = true := by simp; omega
    have R1 := Lib.hid (fun w => l1Read_any (p1.extract 1 p1.size) (by simp; omega) w)
    obtain ⟨b3, b4⟩ := l1r_bd (p1.extract 1 p1.size)
    have SL2 : ∀ w, (Instr.slice 9 (.string p1) (some (.int .i64 1)) none none).run Tryz.prog w = .ok (.string (p1.extract 1 p1.size)) w := fun w => by rw [run_slice_string_from_if _ _ _ _ _ Tryz.underlying9, if_pos ⟨by omega, by omega⟩]; rfl
    have TD := fun w => txDecimal_any (l1rV p0) (-l1rV (p1.extract 1 p1.size)) w
    have hk2 : IntKind.i64.wrap (-l1rV (p1.extract 1 p1.size)) = -l1rV (p1.extract 1 p1.size) := IntWalk.i64_in _ (by omega)
    have key : 0 < l1rV (p1.extract 1 p1.size) → dcB (l1rV p0) (-l1rV (p1.extract 1 p1.size)) = false := fun hl => by
      cases hd : dcB (l1rV p0) (-l1rV (p1.extract 1 p1.size))
      · rfl
      · exfalso
        obtain ⟨⟨d0, d1⟩, t0, t1⟩ := dc_iff.1 hd
        exact hno _ _ ((sh_parts s1 p0 p1 hsp _ _).2 ⟨d0, d1, t0, t1, (ten_pos p0 d0).1, (ten_neg p1 hp hm hl).1⟩)
    clear hm hno hi hg hn z1 z2 hsp hb hbl hbl1 hbl2 hbl3
    generalize l1rV (p1.extract 1 p1.size) = y at *
    generalize p1.extract 1 p1.size = p2 at *
    generalize l1rV p0 = x at *
    by_cases hy : 0 < y
    · have TD2 := fun w => TD w
      rw [key hy] at TD2
      have TD := Lib.hid TD2
      have hk : ¬ (0 : Int) ≤ -y := by omega
      clear key TD2
      rcases SG with ⟨h0, hc, rfl, hs1⟩ | ⟨hc, rfl, rfl⟩
      · have q0 : (0 : Int) < (s.size : Int) := by omega
        have hcb : (((s[0]'h0).toNat : Int) == 45) = true := by simp; omega
        have SL1 : ∀ w, (Instr.slice 9 (.string s) (some (.int .i64 1)) none none).run Tryz.prog w = .ok (.string s1) w := fun w => by rw [run_slice_string_from_if _ _ _ _ _ Tryz.underlying9, if_pos ⟨by omega, by omega⟩, ← hs1]; rfl
        clear hc hs1
        go_enter Tryz.func5, Tryz.ntmps5
        go_wp2_with (first | (go_at_call 14; (with_reducible refine (GA.out _).mono ?_); rintro rv w1 ⟨rfl, hb⟩; have ns : w.heap.size < w1.heap.size := hb.ltK; have n0 : w1.cell? ⟨w.heap.size, 0, none⟩ = some (.int .i64 e) := hb.cellK; have n1 : w1.cell? ⟨w.heap.size, 1, none⟩ = some (.int .i64 f) := hb.cellK; (first | (have nx := hx.trK hb; clear hx) | have nx := hb); clear hb; try clear hs; try clear g0; try clear g1; have hx := nx; clear nx; have hs := ns; clear ns; have g0 := n0; clear n0; have g1 := n1; clear n1) | (go_at_call 18; refine (LS.out _).mono ?_; rintro rv w1 ⟨v, rfl, OWN0, hb⟩; have OWN : World.ownsRow w1 _ _ 1 v 2 _ := OWN0; clear OWN0; obtain ⟨gg, cp, rfl, og1, og2⟩ := World.ownsRow.form OWN (by decide); have c0 := OWN.cellAt 0 (by decide); have c1 := OWN.cellAt 1 (by decide); simp only [rwT, List.map_cons, List.map_nil, List.getElem?_cons_zero, List.getElem?_cons_succ] at c0 c1; clear OWN; have k9s : w.heap.size < w1.heap.size := hb.ltK; have k90 : w1.cell? ⟨w.heap.size, 0, none⟩ = some (.int .i64 e) := (hb.cells _ _ (by first | with_reducible assumption | omega | (simp; done) | (simp; omega))).trans (by first | with_reducible assumption | (simp; done) | (simp; with_reducible assumption) | (simp [go_sem, *]; done)); have k91 : w1.cell? ⟨w.heap.size, 1, none⟩ = some (.int .i64 f) := (hb.cells _ _ (by first | with_reducible assumption | omega | (simp; done) | (simp; omega))).trans (by first | with_reducible assumption | (simp; done) | (simp; with_reducible assumption) | (simp [go_sem, *]; done)); have k9x : Ext w w1 := Ext.auK; (try clear hx); (try clear nx); (try clear hs); (try clear ns); (try clear g0); (try clear n0); (try clear g1); (try clear n1); (try clear hb); have hx := k9x; clear k9x; have hs := k9s; clear k9s; have g0 := k90; clear k90; have g1 := k91; clear k91) | (go_at_call 19; (with_reducible refine (R0.out _).mono ?_); rintro rv w1 ⟨rfl, rfl⟩) | (go_at_call 19; (with_reducible refine (R1.out _).mono ?_); rintro rv w1 ⟨rfl, rfl⟩) | (go_at_call 20; (with_reducible refine (TD.out _).mono ?_); rintro rv w1 ⟨rfl, hb⟩; have ns : w.heap.size < w1.heap.size := hb.ltK; have n0 : w1.cell? ⟨w.heap.size, 0, none⟩ = some (.int .i64 e) := hb.cellK; have n1 : w1.cell? ⟨w.heap.size, 1, none⟩ = some (.int .i64 f) := hb.cellK; (first | (have nx := hx.trK hb; clear hx) | have nx := hb); clear hb; try clear hs; try clear g0; try clear g1; have hx := nx; clear nx; have hs := ns; clear ns; have g0 := n0; clear n0; have g1 := n1; clear n1))
        exact bodyPost_ret (v := .tuple #[.int .i64 0, .bool false]) (by simp [results, Tryz.results5, go_sem, *]) rfl ⟨rfl, Ext.auK⟩
      · by_cases h0 : 0 < s.size
        · have q0 : (0 : Int) < (s.size : Int) := by omega
          have hcb : (((s[0]'h0).toNat : Int) == 45) = false := by have := hc h0; simp; omega
          clear hc
          go_enter Tryz.func5, Tryz.ntmps5
          go_wp2_with (first | (go_at_call 14; (with_reducible refine (GA.out _).mono ?_); rintro rv w1 ⟨rfl, hb⟩; have ns : w.heap.size < w1.heap.size := hb.ltK; have n0 : w1.cell? ⟨w.heap.size, 0, none⟩ = some (.int .i64 e) := hb.cellK; have n1 : w1.cell? ⟨w.heap.size, 1, none⟩ = some (.int .i64 f) := hb.cellK; (first | (have nx := hx.trK hb; clear hx) | have nx := hb); clear hb; try clear hs; try clear g0; try clear g1; have hx := nx; clear nx; have hs := ns; clear ns; have g0 := n0; clear n0; have g1 := n1; clear n1) | (go_at_call 18; refine (LS.out _).mono ?_; rintro rv w1 ⟨v, rfl, OWN0, hb⟩; have OWN : World.ownsRow w1 _ _ 1 v 2 _ := OWN0; clear OWN0; obtain ⟨gg, cp, rfl, og1, og2⟩ := World.ownsRow.form OWN (by decide); have c0 := OWN.cellAt 0 (by decide); have c1 := OWN.cellAt 1 (by decide); simp only [rwT, List.map_cons, List.map_nil, List.getElem?_cons_zero, List.getElem?_cons_succ] at c0 c1; clear OWN; have k9s : w.heap.size < w1.heap.size := hb.ltK; have k90 : w1.cell? ⟨w.heap.size, 0, none⟩ = some (.int .i64 e) := (hb.cells _ _ (by first | with_reducible assumption | omega | (simp; done) | (simp; omega))).trans (by first | with_reducible assumption | (simp; done) | (simp; with_reducible assumption) | (simp [go_sem, *]; done)); have k91 : w1.cell? ⟨w.heap.size, 1, none⟩ = some (.int .i64 f) := (hb.cells _ _ (by first | with_reducible assumption | omega | (simp; done) | (simp; omega))).trans (by first | with_reducible assumption | (simp; done) | (simp; with_reducible assumption) | (simp [go_sem, *]; done)); have k9x : Ext w w1 := Ext.auK; (try clear hx); (try clear nx); (try clear hs); (try clear ns); (try clear g0); (try clear n0); (try clear g1); (try clear n1); (try clear hb); have hx := k9x; clear k9x; have hs := k9s; clear k9s; have g0 := k90; clear k90; have g1 := k91; clear k91) | (go_at_call 19; (with_reducible refine (R0.out _).mono ?_); rintro rv w1 ⟨rfl, rfl⟩) | (go_at_call 19; (with_reducible refine (R1.out _).mono ?_); rintro rv w1 ⟨rfl, rfl⟩) | (go_at_call 20; (with_reducible refine (TD.out _).mono ?_); rintro rv w1 ⟨rfl, hb⟩; have ns : w.heap.size < w1.heap.size := hb.ltK; have n0 : w1.cell? ⟨w.heap.size, 0, none⟩ = some (.int .i64 e) := hb.cellK; have n1 : w1.cell? ⟨w.heap.size, 1, none⟩ = some (.int .i64 f) := hb.cellK; (first | (have nx := hx.trK hb; clear hx) | have nx := hb); clear hb; try clear hs; try clear g0; try clear g1; have hx := nx; clear nx; have hs := ns; clear ns; have g0 := n0; clear n0; have g1 := n1; clear n1))
          exact bodyPost_ret (v := .tuple #[.int .i64 0, .bool false]) (by simp [results, Tryz.results5, go_sem, *]) rfl ⟨rfl, Ext.auK⟩
        · have q0 : ¬ (0 : Int) < (s.size : Int) := by omega
          clear hc
          go_enter Tryz.func5, Tryz.ntmps5
          go_wp2_with (first | (go_at_call 14; (with_reducible refine (GA.out _).mono ?_); rintro rv w1 ⟨rfl, hb⟩; have ns : w.heap.size < w1.heap.size := hb.ltK; have n0 : w1.cell? ⟨w.heap.size, 0, none⟩ = some (.int .i64 e) := hb.cellK; have n1 : w1.cell? ⟨w.heap.size, 1, none⟩ = some (.int .i64 f) := hb.cellK; (first | (have nx := hx.trK hb; clear hx) | have nx := hb); clear hb; try clear hs; try clear g0; try clear g1; have hx := nx; clear nx; have hs := ns; clear ns; have g0 := n0; clear n0; have g1 := n1; clear n1) | (go_at_call 18; refine (LS.out _).mono ?_; rintro rv w1 ⟨v, rfl, OWN0, hb⟩; have OWN : World.ownsRow w1 _ _ 1 v 2 _ := OWN0; clear OWN0; obtain ⟨gg, cp, rfl, og1, og2⟩ := World.ownsRow.form OWN (by decide); have c0 := OWN.cellAt 0 (by decide); have c1 := OWN.cellAt 1 (by decide); simp only [rwT, List.map_cons, List.map_nil, List.getElem?_cons_zero, List.getElem?_cons_succ] at c0 c1; clear OWN; have k9s : w.heap.size < w1.heap.size := hb.ltK; have k90 : w1.cell? ⟨w.heap.size, 0, none⟩ = some (.int .i64 e) := (hb.cells _ _ (by first | with_reducible assumption | omega | (simp; done) | (simp; omega))).trans (by first | with_reducible assumption | (simp; done) | (simp; with_reducible assumption) | (simp [go_sem, *]; done)); have k91 : w1.cell? ⟨w.heap.size, 1, none⟩ = some (.int .i64 f) := (hb.cells _ _ (by first | with_reducible assumption | omega | (simp; done) | (simp; omega))).trans (by first | with_reducible assumption | (simp; done) | (simp; with_reducible assumption) | (simp [go_sem, *]; done)); have k9x : Ext w w1 := Ext.auK; (try clear hx); (try clear nx); (try clear hs); (try clear ns); (try clear g0); (try clear n0); (try clear g1); (try clear n1); (try clear hb); have hx := k9x; clear k9x; have hs := k9s; clear k9s; have g0 := k90; clear k90; have g1 := k91; clear k91) | (go_at_call 19; (with_reducible refine (R0.out _).mono ?_); rintro rv w1 ⟨rfl, rfl⟩) | (go_at_call 19; (with_reducible refine (R1.out _).mono ?_); rintro rv w1 ⟨rfl, rfl⟩) | (go_at_call 20; (with_reducible refine (TD.out _).mono ?_); rintro rv w1 ⟨rfl, hb⟩; have ns : w.heap.size < w1.heap.size := hb.ltK; have n0 : w1.cell? ⟨w.heap.size, 0, none⟩ = some (.int .i64 e) := hb.cellK; have n1 : w1.cell? ⟨w.heap.size, 1, none⟩ = some (.int .i64 f) := hb.cellK; (first | (have nx := hx.trK hb; clear hx) | have nx := hb); clear hb; try clear hs; try clear g0; try clear g1; have hx := nx; clear nx; have hs := ns; clear ns; have g0 := n0; clear n0; have g1 := n1; clear n1))
          exact bodyPost_ret (v := .tuple #[.int .i64 0, .bool false]) (by simp [results, Tryz.results5, go_sem, *]) rfl ⟨rfl, Ext.auK⟩
    · have hk : (0 : Int) ≤ -y := by omega
      have TD := Lib.hid TD
      clear key
      rcases SG with ⟨h0, hc, rfl, hs1⟩ | ⟨hc, rfl, rfl⟩
      · have q0 : (0 : Int) < (s.size : Int) := by omega
        have hcb : (((s[0]'h0).toNat : Int) == 45) = true := by simp; omega
        have SL1 : ∀ w, (Instr.slice 9 (.string s) (some (.int .i64 1)) none none).run Tryz.prog w = .ok (.string s1) w := fun w => by rw [run_slice_string_from_if _ _ _ _ _ Tryz.underlying9, if_pos ⟨by omega, by omega⟩, ← hs1]; rfl
        clear hc hs1
        go_enter Tryz.func5, Tryz.ntmps5
        go_wp2_with (first | (go_at_call 14; (with_reducible refine (GA.out _).mono ?_); rintro rv w1 ⟨rfl, hb⟩; have ns : w.heap.size < w1.heap.size := hb.ltK; have n0 : w1.cell? ⟨w.heap.size, 0, none⟩ = some (.int .i64 e) := hb.cellK; have n1 : w1.cell? ⟨w.heap.size, 1, none⟩ = some (.int .i64 f) := hb.cellK; (first | (have nx := hx.trK hb; clear hx) | have nx := hb); clear hb; try clear hs; try clear g0; try clear g1; have hx := nx; clear nx; have hs := ns; clear ns; have g0 := n0; clear n0; have g1 := n1; clear n1) | (go_at_call 18; refine (LS.out _).mono ?_; rintro rv w1 ⟨v, rfl, OWN0, hb⟩; have OWN : World.ownsRow w1 _ _ 1 v 2 _ := OWN0; clear OWN0; obtain ⟨gg, cp, rfl, og1, og2⟩ := World.ownsRow.form OWN (by decide); have c0 := OWN.cellAt 0 (by decide); have c1 := OWN.cellAt 1 (by decide); simp only [rwT, List.map_cons, List.map_nil, List.getElem?_cons_zero, List.getElem?_cons_succ] at c0 c1; clear OWN; have k9s : w.heap.size < w1.heap.size := hb.ltK; have k90 : w1.cell? ⟨w.heap.size, 0, none⟩ = some (.int .i64 e) := (hb.cells _ _ (by first | with_reducible assumption | omega | (simp; done) | (simp; omega))).trans (by first | with_reducible assumption | (simp; done) | (simp; with_reducible assumption) | (simp [go_sem, *]; done)); have k91 : w1.cell? ⟨w.heap.size, 1, none⟩ = some (.int .i64 f) := (hb.cells _ _ (by first | with_reducible assumption | omega | (simp; done) | (simp; omega))).trans (by first | with_reducible assumption | (simp; done) | (simp; with_reducible assumption) | (simp [go_sem, *]; done)); have k9x : Ext w w1 := Ext.auK; (try clear hx); (try clear nx); (try clear hs); (try clear ns); (try clear g0); (try clear n0); (try clear g1); (try clear n1); (try clear hb); have hx := k9x; clear k9x; have hs := k9s; clear k9s; have g0 := k90; clear k90; have g1 := k91; clear k91) | (go_at_call 19; (with_reducible refine (R0.out _).mono ?_); rintro rv w1 ⟨rfl, rfl⟩) | (go_at_call 19; (with_reducible refine (R1.out _).mono ?_); rintro rv w1 ⟨rfl, rfl⟩) | (go_at_call 20; (with_reducible refine (TD.out _).mono ?_); rintro rv w1 ⟨rfl, hb⟩; have ns : w.heap.size < w1.heap.size := hb.ltK; have n0 : w1.cell? ⟨w.heap.size, 0, none⟩ = some (.int .i64 e) := hb.cellK; have n1 : w1.cell? ⟨w.heap.size, 1, none⟩ = some (.int .i64 f) := hb.cellK; (first | (have nx := hx.trK hb; clear hx) | have nx := hb); clear hb; try clear hs; try clear g0; try clear g1; have hx := nx; clear nx; have hs := ns; clear ns; have g0 := n0; clear n0; have g1 := n1; clear n1))
        exact bodyPost_ret (v := .tuple #[.int .i64 0, .bool false]) (by simp [results, Tryz.results5, go_sem, *]) rfl ⟨rfl, Ext.auK⟩
      · by_cases h0 : 0 < s.size
        · have q0 : (0 : Int) < (s.size : Int) := by omega
          have hcb : (((s[0]'h0).toNat : Int) == 45) = false := by have := hc h0; simp; omega
          clear hc
          go_enter Tryz.func5, Tryz.ntmps5
          go_wp2_with (first | (go_at_call 14; (with_reducible refine (GA.out _).mono ?_); rintro rv w1 ⟨rfl, hb⟩; have ns : w.heap.size < w1.heap.size := hb.ltK; have n0 : w1.cell? ⟨w.heap.size, 0, none⟩ = some (.int .i64 e) := hb.cellK; have n1 : w1.cell? ⟨w.heap.size, 1, none⟩ = some (.int .i64 f) := hb.cellK; (first | (have nx := hx.trK hb; clear hx) | have nx := hb); clear hb; try clear hs; try clear g0; try clear g1; have hx := nx; clear nx; have hs := ns; clear ns; have g0 := n0; clear n0; have g1 := n1; clear n1) | (go_at_call 18; refine (LS.out _).mono ?_; rintro rv w1 ⟨v, rfl, OWN0, hb⟩; have OWN : World.ownsRow w1 _ _ 1 v 2 _ := OWN0; clear OWN0; obtain ⟨gg, cp, rfl, og1, og2⟩ := World.ownsRow.form OWN (by decide); have c0 := OWN.cellAt 0 (by decide); have c1 := OWN.cellAt 1 (by decide); simp only [rwT, List.map_cons, List.map_nil, List.getElem?_cons_zero, List.getElem?_cons_succ] at c0 c1; clear OWN; have k9s : w.heap.size < w1.heap.size := hb.ltK; have k90 : w1.cell? ⟨w.heap.size, 0, none⟩ = some (.int .i64 e) := (hb.cells _ _ (by first | with_reducible assumption | omega | (simp; done) | (simp; omega))).trans (by first | with_reducible assumption | (simp; done) | (simp; with_reducible assumption) | (simp [go_sem, *]; done)); have k91 : w1.cell? ⟨w.heap.size, 1, none⟩ = some (.int .i64 f) := (hb.cells _ _ (by first | with_reducible assumption | omega | (simp; done) | (simp; omega))).trans (by first | with_reducible assumption | (simp; done) | (simp; with_reducible assumption) | (simp [go_sem, *]; done)); have k9x : Ext w w1 := Ext.auK; (try clear hx); (try clear nx); (try clear hs); (try clear ns); (try clear g0); (try clear n0); (try clear g1); (try clear n1); (try clear hb); have hx := k9x; clear k9x; have hs := k9s; clear k9s; have g0 := k90; clear k90; have g1 := k91; clear k91) | (go_at_call 19; (with_reducible refine (R0.out _).mono ?_); rintro rv w1 ⟨rfl, rfl⟩) | (go_at_call 19; (with_reducible refine (R1.out _).mono ?_); rintro rv w1 ⟨rfl, rfl⟩) | (go_at_call 20; (with_reducible refine (TD.out _).mono ?_); rintro rv w1 ⟨rfl, hb⟩; have ns : w.heap.size < w1.heap.size := hb.ltK; have n0 : w1.cell? ⟨w.heap.size, 0, none⟩ = some (.int .i64 e) := hb.cellK; have n1 : w1.cell? ⟨w.heap.size, 1, none⟩ = some (.int .i64 f) := hb.cellK; (first | (have nx := hx.trK hb; clear hx) | have nx := hb); clear hb; try clear hs; try clear g0; try clear g1; have hx := nx; clear nx; have hs := ns; clear ns; have g0 := n0; clear n0; have g1 := n1; clear n1))
          exact bodyPost_ret (v := .tuple #[.int .i64 0, .bool false]) (by simp [results, Tryz.results5, go_sem, *]) rfl ⟨rfl, Ext.auK⟩
        · have q0 : ¬ (0 : Int) < (s.size : Int) := by omega
          clear hc
          go_enter Tryz.func5, Tryz.ntmps5
          go_wp2_with (first | (go_at_call 14; (with_reducible refine (GA.out _).mono ?_); rintro rv w1 ⟨rfl, hb⟩; have ns : w.heap.size < w1.heap.size := hb.ltK; have n0 : w1.cell? ⟨w.heap.size, 0, none⟩ = some (.int .i64 e) := hb.cellK; have n1 : w1.cell? ⟨w.heap.size, 1, none⟩ = some (.int .i64 f) := hb.cellK; (first | (have nx := hx.trK hb; clear hx) | have nx := hb); clear hb; try clear hs; try clear g0; try clear g1; have hx := nx; clear nx; have hs := ns; clear ns; have g0 := n0; clear n0; have g1 := n1; clear n1) | (go_at_call 18; refine (LS.out _).mono ?_; rintro rv w1 ⟨v, rfl, OWN0, hb⟩; have OWN : World.ownsRow w1 _ _ 1 v 2 _ := OWN0; clear OWN0; obtain ⟨gg, cp, rfl, og1, og2⟩ := World.ownsRow.form OWN (by decide); have c0 := OWN.cellAt 0 (by decide); have c1 := OWN.cellAt 1 (by decide); simp only [rwT, List.map_cons, List.map_nil, List.getElem?_cons_zero, List.getElem?_cons_succ] at c0 c1; clear OWN; have k9s : w.heap.size < w1.heap.size := hb.ltK; have k90 : w1.cell? ⟨w.heap.size, 0, none⟩ = some (.int .i64 e) := (hb.cells _ _ (by first | with_reducible assumption | omega | (simp; done) | (simp; omega))).trans (by first | with_reducible assumption | (simp; done) | (simp; with_reducible assumption) | (simp [go_sem, *]; done)); have k91 : w1.cell? ⟨w.heap.size, 1, none⟩ = some (.int .i64 f) := (hb.cells _ _ (by first | with_reducible assumption | omega | (simp; done) | (simp; omega))).trans (by first | with_reducible assumption | (simp; done) | (simp; with_reducible assumption) | (simp [go_sem, *]; done)); have k9x : Ext w w1 := Ext.auK; (try clear hx); (try clear nx); (try clear hs); (try clear ns); (try clear g0); (try clear n0); (try clear g1); (try clear n1); (try clear hb); have hx := k9x; clear k9x; have hs := k9s; clear k9s; have g0 := k90; clear k90; have g1 := k91; clear k91) | (go_at_call 19; (with_reducible refine (R0.out _).mono ?_); rintro rv w1 ⟨rfl, rfl⟩) | (go_at_call 19; (with_reducible refine (R1.out _).mono ?_); rintro rv w1 ⟨rfl, rfl⟩) | (go_at_call 20; (with_reducible refine (TD.out _).mono ?_); rintro rv w1 ⟨rfl, hb⟩; have ns : w.heap.size < w1.heap.size := hb.ltK; have n0 : w1.cell? ⟨w.heap.size, 0, none⟩ = some (.int .i64 e) := hb.cellK; have n1 : w1.cell? ⟨w.heap.size, 1, none⟩ = some (.int .i64 f) := hb.cellK; (first | (have nx := hx.trK hb; clear hx) | have nx := hb); clear hb; try clear hs; try clear g0; try clear g1; have hx := nx; clear nx; have hs := ns; clear ns; have g0 := n0; clear n0; have g1 := n1; clear n1))
          exact bodyPost_ret (v := .tuple #[.int .i64 0, .bool false]) (by simp [results, Tryz.results5, go_sem, *]) rfl ⟨rfl, Ext.auK⟩
  · have hcb2 : (((p1[0]'hp).toNat : Int) == 45) = false := by simp; omega
    have R1 := Lib.hid (fun w => l1Read_any p1 (by omega) w)
    obtain ⟨b3, b4⟩ := l1r_bd p1
    have TD := fun w => txDecimal_any (l1rV p0) (l1rV p1) w
    have key : 0 ≤ l1rV p1 → dcB (l1rV p0) (l1rV p1) = false := fun hl => by
      cases hd : dcB (l1rV p0) (l1rV p1)
      · rfl
      · exfalso
        obtain ⟨⟨d0, d1⟩, t0, t1⟩ := dc_iff.1 hd
        exact hno _ _ ((sh_parts s1 p0 p1 hsp _ _).2 ⟨d0, d1, t0, t1, (ten_pos p0 d0).1, (ten_pos p1 hl).1⟩)
    clear hm hno hi hg hn z1 z2 hsp hb hbl hbl1 hbl2 hbl3
    generalize l1rV p1 = y at *
    generalize l1rV p0 = x at *
    by_cases hy : 0 ≤ y
    · have TD2 := fun w => TD w
      rw [key hy] at TD2
      have TD := Lib.hid TD2
      have hk : ¬ y < 0 := by omega
      clear key TD2
      rcases SG with ⟨h0, hc, rfl, hs1⟩ | ⟨hc, rfl, rfl⟩
      · have q0 : (0 : Int) < (s.size : Int) := by omega
        have hcb : (((s[0]'h0).toNat : Int) == 45) = true := by simp; omega
        have SL1 : ∀ w, (Instr.slice 9 (.string s) (some (.int .i64 1)) none none).run Tryz.prog w = .ok (.string s1) w := fun w => by rw [run_slice_string_from_if _ _ _ _ _ Tryz.underlying9, if_pos ⟨by omega, by omega⟩, ← hs1]; rfl
        clear hc hs1
        go_enter Tryz.func5, Tryz.ntmps5
        go_wp2_with (first | (go_at_call 14; (with_reducible refine (GA.out _).mono ?_); rintro rv w1 ⟨rfl, hb⟩; have ns : w.heap.size < w1.heap.size := hb.ltK; have n0 : w1.cell? ⟨w.heap.size, 0, none⟩ = some (.int .i64 e) := hb.cellK; have n1 : w1.cell? ⟨w.heap.size, 1, none⟩ = some (.int .i64 f) := hb.cellK; (first | (have nx := hx.trK hb; clear hx) | have nx := hb); clear hb; try clear hs; try clear g0; try clear g1; have hx := nx; clear nx; have hs := ns; clear ns; have g0 := n0; clear n0; have g1 := n1; clear n1) | (go_at_call 18; refine (LS.out _).mono ?_; rintro rv w1 ⟨v, rfl, OWN0, hb⟩; have OWN : World.ownsRow w1 _ _ 1 v 2 _ := OWN0; clear OWN0; obtain ⟨gg, cp, rfl, og1, og2⟩ := World.ownsRow.form OWN (by decide); have c0 := OWN.cellAt 0 (by decide); have c1 := OWN.cellAt 1 (by decide); simp only [rwT, List.map_cons, List.map_nil, List.getElem?_cons_zero, List.getElem?_cons_succ] at c0 c1; clear OWN; have k9s : w.heap.size < w1.heap.size := hb.ltK; have k90 : w1.cell? ⟨w.heap.size, 0, none⟩ = some (.int .i64 e) := (hb.cells _ _ (by first | with_reducible assumption | omega | (simp; done) | (simp; omega))).trans (by first | with_reducible assumption | (simp; done) | (simp; with_reducible assumption) | (simp [go_sem, *]; done)); have k91 : w1.cell? ⟨w.heap.size, 1, none⟩ = some (.int .i64 f) := (hb.cells _ _ (by first | with_reducible assumption | omega | (simp; done) | (simp; omega))).trans (by first | with_reducible assumption | (simp; done) | (simp; with_reducible assumption) | (simp [go_sem, *]; done)); have k9x : Ext w w1 := Ext.auK; (try clear hx); (try clear nx); (try clear hs); (try clear ns); (try clear g0); (try clear n0); (try clear g1); (try clear n1); (try clear hb); have hx := k9x; clear k9x; have hs := k9s; clear k9s; have g0 := k90; clear k90; have g1 := k91; clear k91) | (go_at_call 19; (with_reducible refine (R0.out _).mono ?_); rintro rv w1 ⟨rfl, rfl⟩) | (go_at_call 19; (with_reducible refine (R1.out _).mono ?_); rintro rv w1 ⟨rfl, rfl⟩) | (go_at_call 20; (with_reducible refine (TD.out _).mono ?_); rintro rv w1 ⟨rfl, hb⟩; have ns : w.heap.size < w1.heap.size := hb.ltK; have n0 : w1.cell? ⟨w.heap.size, 0, none⟩ = some (.int .i64 e) := hb.cellK; have n1 : w1.cell? ⟨w.heap.size, 1, none⟩ = some (.int .i64 f) := hb.cellK; (first | (have nx := hx.trK hb; clear hx) | have nx := hb); clear hb; try clear hs; try clear g0; try clear g1; have hx := nx; clear nx; have hs := ns; clear ns; have g0 := n0; clear n0; have g1 := n1; clear n1))
        exact bodyPost_ret (v := .tuple #[.int .i64 0, .bool false]) (by simp [results, Tryz.results5, go_sem, *]) rfl ⟨rfl, Ext.auK⟩
      · by_cases h0 : 0 < s.size
        · have q0 : (0 : Int) < (s.size : Int) := by omega
          have hcb : (((s[0]'h0).toNat : Int) == 45) = false := by have := hc h0; simp; omega
          clear hc
          go_enter Tryz.func5, Tryz.ntmps5
          go_wp2_with (first | (go_at_call 14; (with_reducible refine (GA.out _).mono ?_); rintro rv w1 ⟨rfl, hb⟩; have ns : w.heap.size < w1.heap.size := hb.ltK; have n0 : w1.cell? ⟨w.heap.size, 0, none⟩ = some (.int .i64 e) := hb.cellK; have n1 : w1.cell? ⟨w.heap.size, 1, none⟩ = some (.int .i64 f) := hb.cellK; (first | (have nx := hx.trK hb; clear hx) | have nx := hb); clear hb; try clear hs; try clear g0; try clear g1; have hx := nx; clear nx; have hs := ns; clear ns; have g0 := n0; clear n0; have g1 := n1; clear n1) | (go_at_call 18; refine (LS.out _).mono ?_; rintro rv w1 ⟨v, rfl, OWN0, hb⟩; have OWN : World.ownsRow w1 _ _ 1 v 2 _ := OWN0; clear OWN0; obtain ⟨gg, cp, rfl, og1, og2⟩ := World.ownsRow.form OWN (by decide); have c0 := OWN.cellAt 0 (by decide); have c1 := OWN.cellAt 1 (by decide); simp only [rwT, List.map_cons, List.map_nil, List.getElem?_cons_zero, List.getElem?_cons_succ] at c0 c1; clear OWN; have k9s : w.heap.size < w1.heap.size := hb.ltK; have k90 : w1.cell? ⟨w.heap.size, 0, none⟩ = some (.int .i64 e) := (hb.cells _ _ (by first | with_reducible assumption | omega | (simp; done) | (simp; omega))).trans (by first | with_reducible assumption | (simp; done) | (simp; with_reducible assumption) | (simp [go_sem, *]; done)); have k91 : w1.cell? ⟨w.heap.size, 1, none⟩ = some (.int .i64 f) := (hb.cells _ _ (by first | with_reducible assumption | omega | (simp; done) | (simp; omega))).trans (by first | with_reducible assumption | (simp; done) | (simp; with_reducible assumption) | (simp [go_sem, *]; done)); have k9x : Ext w w1 := Ext.auK; (try clear hx); (try clear nx); (try clear hs); (try clear ns); (try clear g0); (try clear n0); (try clear g1); (try clear n1); (try clear hb); have hx := k9x; clear k9x; have hs := k9s; clear k9s; have g0 := k90; clear k90; have g1 := k91; clear k91) | (go_at_call 19; (with_reducible refine (R0.out _).mono ?_); rintro rv w1 ⟨rfl, rfl⟩) | (go_at_call 19; (with_reducible refine (R1.out _).mono ?_); rintro rv w1 ⟨rfl, rfl⟩) | (go_at_call 20; (with_reducible refine (TD.out _).mono ?_); rintro rv w1 ⟨rfl, hb⟩; have ns : w.heap.size < w1.heap.size := hb.ltK; have n0 : w1.cell? ⟨w.heap.size, 0, none⟩ = some (.int .i64 e) := hb.cellK; have n1 : w1.cell? ⟨w.heap.size, 1, none⟩ = some (.int .i64 f) := hb.cellK; (first | (have nx := hx.trK hb; clear hx) | have nx := hb); clear hb; try clear hs; try clear g0; try clear g1; have hx := nx; clear nx; have hs := ns; clear ns; have g0 := n0; clear n0; have g1 := n1; clear n1))
          exact bodyPost_ret (v := .tuple #[.int .i64 0, .bool false]) (by simp [results, Tryz.results5, go_sem, *]) rfl ⟨rfl, Ext.auK⟩
        · have q0 : ¬ (0 : Int) < (s.size : Int) := by omega
          clear hc
          go_enter Tryz.func5, Tryz.ntmps5
          go_wp2_with (first | (go_at_call 14; (with_reducible refine (GA.out _).mono ?_); rintro rv w1 ⟨rfl, hb⟩; have ns : w.heap.size < w1.heap.size := hb.ltK; have n0 : w1.cell? ⟨w.heap.size, 0, none⟩ = some (.int .i64 e) := hb.cellK; have n1 : w1.cell? ⟨w.heap.size, 1, none⟩ = some (.int .i64 f) := hb.cellK; (first | (have nx := hx.trK hb; clear hx) | have nx := hb); clear hb; try clear hs; try clear g0; try clear g1; have hx := nx; clear nx; have hs := ns; clear ns; have g0 := n0; clear n0; have g1 := n1; clear n1) | (go_at_call 18; refine (LS.out _).mono ?_; rintro rv w1 ⟨v, rfl, OWN0, hb⟩; have OWN : World.ownsRow w1 _ _ 1 v 2 _ := OWN0; clear OWN0; obtain ⟨gg, cp, rfl, og1, og2⟩ := World.ownsRow.form OWN (by decide); have c0 := OWN.cellAt 0 (by decide); have c1 := OWN.cellAt 1 (by decide); simp only [rwT, List.map_cons, List.map_nil, List.getElem?_cons_zero, List.getElem?_cons_succ] at c0 c1; clear OWN; have k9s : w.heap.size < w1.heap.size := hb.ltK; have k90 : w1.cell? ⟨w.heap.size, 0, none⟩ = some (.int .i64 e) := (hb.cells _ _ (by first | with_reducible assumption | omega | (simp; done) | (simp; omega))).trans (by first | with_reducible assumption | (simp; done) | (simp; with_reducible assumption) | (simp [go_sem, *]; done)); have k91 : w1.cell? ⟨w.heap.size, 1, none⟩ = some (.int .i64 f) := (hb.cells _ _ (by first | with_reducible assumption | omega | (simp; done) | (simp; omega))).trans (by first | with_reducible assumption | (simp; done) | (simp; with_reducible assumption) | (simp [go_sem, *]; done)); have k9x : Ext w w1 := Ext.auK; (try clear hx); (try clear nx); (try clear hs); (try clear ns); (try clear g0); (try clear n0); (try clear g1); (try clear n1); (try clear hb); have hx := k9x; clear k9x; have hs := k9s; clear k9s; have g0 := k90; clear k90; have g1 := k91; clear k91) | (go_at_call 19; (with_reducible refine (R0.out _).mono ?_); rintro rv w1 ⟨rfl, rfl⟩) | (go_at_call 19; (with_reducible refine (R1.out _).mono ?_); rintro rv w1 ⟨rfl, rfl⟩) | (go_at_call 20; (with_reducible refine (TD.out _).mono ?_); rintro rv w1 ⟨rfl, hb⟩; have ns : w.heap.size < w1.heap.size := hb.ltK; have n0 : w1.cell? ⟨w.heap.size, 0, none⟩ = some (.int .i64 e) := hb.cellK; have n1 : w1.cell? ⟨w.heap.size, 1, none⟩ = some (.int .i64 f) := hb.cellK; (first | (have nx := hx.trK hb; clear hx) | have nx := hb); clear hb; try clear hs; try clear g0; try clear g1; have hx := nx; clear nx; have hs := ns; clear ns; have g0 := n0; clear n0; have g1 := n1; clear n1))
          exact bodyPost_ret (v := .tuple #[.int .i64 0, .bool false]) (by simp [results, Tryz.results5, go_sem, *]) rfl ⟨rfl, Ext.auK⟩
    · have hk : y < 0 := by omega
      have TD := Lib.hid TD
      clear key
      rcases SG with ⟨h0, hc, rfl, hs1⟩ | ⟨hc, rfl, rfl⟩
      · have q0 : (0 : Int) < (s.size : Int) := by omega
        have hcb : (((s[0]'h0).toNat : Int) == 45) = true := by simp; omega
        have SL1 : ∀ w, (Instr.slice 9 (.string s) (some (.int .i64 1)) none none).run Tryz.prog w = .ok (.string s1) w := fun w => by rw [run_slice_string_from_if _ _ _ _ _ Tryz.underlying9, if_pos ⟨by omega, by omega⟩, ← hs1]; rfl
        clear hc hs1
        go_enter Tryz.func5, Tryz.ntmps5
        go_wp2_with (first | (go_at_call 14; (with_reducible refine (GA.out _).mono ?_); rintro rv w1 ⟨rfl, hb⟩; have ns : w.heap.size < w1.heap.size := hb.ltK; have n0 : w1.cell? ⟨w.heap.size, 0, none⟩ = some (.int .i64 e) := hb.cellK; have n1 : w1.cell? ⟨w.heap.size, 1, none⟩ = some (.int .i64 f) := hb.cellK; (first | (have nx := hx.trK hb; clear hx) | have nx := hb); clear hb; try clear hs; try clear g0; try clear g1; have hx := nx; clear nx; have hs := ns; clear ns; have g0 := n0; clear n0; have g1 := n1; clear n1) | (go_at_call 18; refine (LS.out _).mono ?_; rintro rv w1 ⟨v, rfl, OWN0, hb⟩; have OWN : World.ownsRow w1 _ _ 1 v 2 _ := OWN0; clear OWN0; obtain ⟨gg, cp, rfl, og1, og2⟩ := World.ownsRow.form OWN (by decide); have c0 := OWN.cellAt 0 (by decide); have c1 := OWN.cellAt 1 (by decide); simp only [rwT, List.map_cons, List.map_nil, List.getElem?_cons_zero, List.getElem?_cons_succ] at c0 c1; clear OWN; have k9s : w.heap.size < w1.heap.size := hb.ltK; have k90 : w1.cell? ⟨w.heap.size, 0, none⟩ = some (.int .i64 e) := (hb.cells _ _ (by first | with_reducible assumption | omega | (simp; done) | (simp; omega))).trans (by first | with_reducible assumption | (simp; done) | (simp; with_reducible assumption) | (simp [go_sem, *]; done)); have k91 : w1.cell? ⟨w.heap.size, 1, none⟩ = some (.int .i64 f) := (hb.cells _ _ (by first | with_reducible assumption | omega | (simp; done) | (simp; omega))).trans (by first | with_reducible assumption | (simp; done) | (simp; with_reducible assumption) | (simp [go_sem, *]; done)); have k9x : Ext w w1 := Ext.auK; (try clear hx); (try clear nx); (try clear hs); (try clear ns); (try clear g0); (try clear n0); (try clear g1); (try clear n1); (try clear hb); have hx := k9x; clear k9x; have hs := k9s; clear k9s; have g0 := k90; clear k90; have g1 := k91; clear k91) | (go_at_call 19; (with_reducible refine (R0.out _).mono ?_); rintro rv w1 ⟨rfl, rfl⟩) | (go_at_call 19; (with_reducible refine (R1.out _).mono ?_); rintro rv w1 ⟨rfl, rfl⟩) | (go_at_call 20; (with_reducible refine (TD.out _).mono ?_); rintro rv w1 ⟨rfl, hb⟩; have ns : w.heap.size < w1.heap.size := hb.ltK; have n0 : w1.cell? ⟨w.heap.size, 0, none⟩ = some (.int .i64 e) := hb.cellK; have n1 : w1.cell? ⟨w.heap.size, 1, none⟩ = some (.int .i64 f) := hb.cellK; (first | (have nx := hx.trK hb; clear hx) | have nx := hb); clear hb; try clear hs; try clear g0; try clear g1; have hx := nx; clear nx; have hs := ns; clear ns; have g0 := n0; clear n0; have g1 := n1; clear n1))
        exact bodyPost_ret (v := .tuple #[.int .i64 0, .bool false]) (by simp [results, Tryz.results5, go_sem, *]) rfl ⟨rfl, Ext.auK⟩
      · by_cases h0 : 0 < s.size
        · have q0 : (0 : Int) < (s.size : Int) := by omega
          have hcb : (((s[0]'h0).toNat : Int) == 45) = false := by have := hc h0; simp; omega
          clear hc
          go_enter Tryz.func5, Tryz.ntmps5
          go_wp2_with (first | (go_at_call 14; (with_reducible refine (GA.out _).mono ?_); rintro rv w1 ⟨rfl, hb⟩; have ns : w.heap.size < w1.heap.size := hb.ltK; have n0 : w1.cell? ⟨w.heap.size, 0, none⟩ = some (.int .i64 e) := hb.cellK; have n1 : w1.cell? ⟨w.heap.size, 1, none⟩ = some (.int .i64 f) := hb.cellK; (first | (have nx := hx.trK hb; clear hx) | have nx := hb); clear hb; try clear hs; try clear g0; try clear g1; have hx := nx; clear nx; have hs := ns; clear ns; have g0 := n0; clear n0; have g1 := n1; clear n1) | (go_at_call 18; refine (LS.out _).mono ?_; rintro rv w1 ⟨v, rfl, OWN0, hb⟩; have OWN : World.ownsRow w1 _ _ 1 v 2 _ := OWN0; clear OWN0; obtain ⟨gg, cp, rfl, og1, og2⟩ := World.ownsRow.form OWN (by decide); have c0 := OWN.cellAt 0 (by decide); have c1 := OWN.cellAt 1 (by decide); simp only [rwT, List.map_cons, List.map_nil, List.getElem?_cons_zero, List.getElem?_cons_succ] at c0 c1; clear OWN; have k9s : w.heap.size < w1.heap.size := hb.ltK; have k90 : w1.cell? ⟨w.heap.size, 0, none⟩ = some (.int .i64 e) := (hb.cells _ _ (by first | with_reducible assumption | omega | (simp; done) | (simp; omega))).trans (by first | with_reducible assumption | (simp; done) | (simp; with_reducible assumption) | (simp [go_sem, *]; done)); have k91 : w1.cell? ⟨w.heap.size, 1, none⟩ = some (.int .i64 f) := (hb.cells _ _ (by first | with_reducible assumption | omega | (simp; done) | (simp; omega))).trans (by first | with_reducible assumption | (simp; done) | (simp; with_reducible assumption) | (simp [go_sem, *]; done)); have k9x : Ext w w1 := Ext.auK; (try clear hx); (try clear nx); (try clear hs); (try clear ns); (try clear g0); (try clear n0); (try clear g1); (try clear n1); (try clear hb); have hx := k9x; clear k9x; have hs := k9s; clear k9s; have g0 := k90; clear k90; have g1 := k91; clear k91) | (go_at_call 19; (with_reducible refine (R0.out _).mono ?_); rintro rv w1 ⟨rfl, rfl⟩) | (go_at_call 19; (with_reducible refine (R1.out _).mono ?_); rintro rv w1 ⟨rfl, rfl⟩) | (go_at_call 20; (with_reducible refine (TD.out _).mono ?_); rintro rv w1 ⟨rfl, hb⟩; have ns : w.heap.size < w1.heap.size := hb.ltK; have n0 : w1.cell? ⟨w.heap.size, 0, none⟩ = some (.int .i64 e) := hb.cellK; have n1 : w1.cell? ⟨w.heap.size, 1, none⟩ = some (.int .i64 f) := hb.cellK; (first | (have nx := hx.trK hb; clear hx) | have nx := hb); clear hb; try clear hs; try clear g0; try clear g1; have hx := nx; clear nx; have hs := ns; clear ns; have g0 := n0; clear n0; have g1 := n1; clear n1))
          exact bodyPost_ret (v := .tuple #[.int .i64 0, .bool false]) (by simp [results, Tryz.results5, go_sem, *]) rfl ⟨rfl, Ext.auK⟩
        · have q0 : ¬ (0 : Int) < (s.size : Int) := by omega
          clear hc
          go_enter Tryz.func5, Tryz.ntmps5
          go_wp2_with (first | (go_at_call 14; (with_reducible refine (GA.out _).mono ?_); rintro rv w1 ⟨rfl, hb⟩; have ns : w.heap.size < w1.heap.size := hb.ltK; have n0 : w1.cell? ⟨w.heap.size, 0, none⟩ = some (.int .i64 e) := hb.cellK; have n1 : w1.cell? ⟨w.heap.size, 1, none⟩ = some (.int .i64 f) := hb.cellK; (first | (have nx := hx.trK hb; clear hx) | have nx := hb); clear hb; try clear hs; try clear g0; try clear g1; have hx := nx; clear nx; have hs := ns; clear ns; have g0 := n0; clear n0; have g1 := n1; clear n1) | (go_at_call 18; refine (LS.out _).mono ?_; rintro rv w1 ⟨v, rfl, OWN0, hb⟩; have OWN : World.ownsRow w1 _ _ 1 v 2 _ := OWN0; clear OWN0; obtain ⟨gg, cp, rfl, og1, og2⟩ := World.ownsRow.form OWN (by decide); have c0 := OWN.cellAt 0 (by decide); have c1 := OWN.cellAt 1 (by decide); simp only [rwT, List.map_cons, List.map_nil, List.getElem?_cons_zero, List.getElem?_cons_succ] at c0 c1; clear OWN; have k9s : w.heap.size < w1.heap.size := hb.ltK; have k90 : w1.cell? ⟨w.heap.size, 0, none⟩ = some (.int .i64 e) := (hb.cells _ _ (by first | with_reducible assumption | omega | (simp; done) | (simp; omega))).trans (by first | with_reducible assumption | (simp; done) | (simp; with_reducible assumption) | (simp [go_sem, *]; done)); have k91 : w1.cell? ⟨w.heap.size, 1, none⟩ = some (.int .i64 f) := (hb.cells _ _ (by first | with_reducible assumption | omega | (simp; done) | (simp; omega))).trans (by first | with_reducible assumption | (simp; done) | (simp; with_reducible assumption) | (simp [go_sem, *]; done)); have k9x : Ext w w1 := Ext.auK; (try clear hx); (try clear nx); (try clear hs); (try clear ns); (try clear g0); (try clear n0); (try clear g1); (try clear n1); (try clear hb); have hx := k9x; clear k9x; have hs := k9s; clear k9s; have g0 := k90; clear k90; have g1 := k91; clear k91) | (go_at_call 19; (with_reducible refine (R0.out _).mono ?_); rintro rv w1 ⟨rfl, rfl⟩) | (go_at_call 19; (with_reducible refine (R1.out _).mono ?_); rintro rv w1 ⟨rfl, rfl⟩) | (go_at_call 20; (with_reducible refine (TD.out _).mono ?_); rintro rv w1 ⟨rfl, hb⟩; have ns : w.heap.size < w1.heap.size := hb.ltK; have n0 : w1.cell? ⟨w.heap.size, 0, none⟩ = some (.int .i64 e) := hb.cellK; have n1 : w1.cell? ⟨w.heap.size, 1, none⟩ = some (.int .i64 f) := hb.cellK; (first | (have nx := hx.trK hb; clear hx) | have nx := hb); clear hb; try clear hs; try clear g0; try clear g1; have hx := nx; clear nx; have hs := ns; clear ns; have g0 := n0; clear n0; have g1 := n1; clear n1))
          exact bodyPost_ret (v := .tuple #[.int .i64 0, .bool false]) (by simp [results, Tryz.results5, go_sem, *]) rfl ⟨rfl, Ext.auK⟩

theorem sPS_no (e f : Int) (s s1 : ByteArray) (u : Int) (hg : goodB e f = true) (hs20 : s.size ≤ 20) (hn : s.data.toList ≠ [110, 97, 110]) (SG : Sgn s u s1) (hi : s1.data.toList ≠ [105, 110, 102]) (hno : ∀ d t, ¬ ShT s1.data.toList d t) (w : World) : Calls Tryz.prog 5 #[fmt e f, .string s] w fun rv w' => rv = .returned (.tuple #[.int .i64 0, .bool false]) ∧ Ext w w' := by
  by_cases hl : (spV s1).length = 2
  · obtain ⟨p0, p1, hsp⟩ : ∃ p0 p1, spV s1 = [p0, p1] := by
      match h : spV s1, hl with
      | [a, b], _ => exact ⟨a, b, rfl⟩
    by_cases hp : 0 < p1.size
    · exact sPS_no3 e f s s1 u hg hs20 hn SG hi p0 p1 hsp hp hno w
    · exact sPS_no2 e f s s1 u hg hs20 hn SG hi p0 p1 hsp (by omega) w
  · exact sPS_no1 e f s s1 u hg hs20 hn SG hi hl w
end Go.Proofs.YtmddlbphanlfhaaGreatDoor

