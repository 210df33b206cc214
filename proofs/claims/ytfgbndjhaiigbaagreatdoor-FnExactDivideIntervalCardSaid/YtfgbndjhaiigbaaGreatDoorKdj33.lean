/-
  Contracts of the functions that the laws reach, and the plain facts that they rest on, each under the conditions that its line names; part 33.
-/
import Derived.Test.YtfgbndjhaiigbaaGreatDoorKdj1
import Derived.Test.YtfgbndjhaiigbaaGreatDoorKdj2
import Derived.Test.YtfgbndjhaiigbaaGreatDoorKdj3
import Derived.Test.YtfgbndjhaiigbaaGreatDoorKdj4
import Derived.Test.YtfgbndjhaiigbaaGreatDoorKdj5
import Derived.Test.YtfgbndjhaiigbaaGreatDoorKdj14
import Derived.Test.YtfgbndjhaiigbaaGreatDoorKdj31
import Derived.Test.YtfgbndjhaiigbaaGreatDoorKdj32
import Derived.Test.YtfgbndjhaiigbaaGreatDoorRows
import Derived.WalkKit
import Derived.LoopTactic
import Derived.Laws.Bits64b
import Derived.WalkSpells
import Derived.WalkLawsBesides
import Derived.StillTactics
import Derived.Laws.Pointers
import Derived.Deep.RegionHeld3
import Derived.Deep.QuietTactic
import Derived.BigQuiet
import Derived.Outline
import Derived.Lib.Hide
import Derived.RowKit3
import Derived.Carry
import Derived.IntWalk
namespace Go.Proofs.YtfgbndjhaiigbaaGreatDoor
open Go Go.RowKit
set_option linter.unusedSimpArgs false
set_option linter.unusedVariables false
set_option maxRecDepth 100000

theorem iz_en {e f p : Int} (hn : numB e f p = true) : izV e f p = enV e f p := by
  have hp := (num_mag.1 hn).1
  unfold izV enV
  rw [← zer_iff e f p hp, hn]
  simp

theorem iz_end {e f p : Int} (h : enB e f p = true) : izV e f p = p := by
  have hn := (en_parts h).2.1
  have := (iz_num hn).2 h
  simpa using this

theorem pat_iz {e f p : Int} (hp : patB e f p = true) : patB e f (izV e f p) = true := by
  obtain ⟨hg, p0, p1⟩ := pat_iff.1 hp
  have := pw_pos (e + f)
  unfold izV
  split
  · exact pat_iff.2 ⟨hg, Int.le_refl _, by omega⟩
  · exact hp

set_option maxHeartbeats 6400000 in
theorem ivGood_a (e f a b : Int) (na : numB e f a = false) (w : World) : Calls Tryz.prog 50 #[fmt e f, two a b] w fun rv w' => rv = .returned (.bool false) ∧ Ext w w' := by
  have NA := Lib.hid (fun w => fmNumber_any e f a w)
  have NB := Lib.hid (fun w => fmNumber_any e f b w)
  rw [na] at NA
  clear na
  go_enter Tryz.func50, Tryz.ntmps50
  go_wp2_with fail
  refine wp_region_held_drew (S := (fun w' => w'.cell? ⟨w.heap.size, 0, none⟩ = some (.int .i64 e) ∧ w'.cell? ⟨w.heap.size, 1, none⟩ = some (.int .i64 f) ∧ w'.cell? ⟨w.heap.size + 1, 0, none⟩ = some (.int .i64 a) ∧ w'.cell? ⟨w.heap.size + 1, 1, none⟩ = some (.int .i64 b) ∧ w.heap.size + 1 < w'.heap.size)) (by kernel_rfl) ?_ (fun hHeld => ?_)
  · ((refine ⟨?_, ?_, ?_, ?_, ?_⟩ <;> first | with_reducible assumption | ((repeat first | rw [cell_set_far _ _ _ _ _ _ (by omega)] | rw [cell_alloc_before _ _ _ _ (by omega)] | rw [cell_alloc_drew _ _ _ _ (by omega)] | rw [cell_drew]); with_reducible assumption) | ((rw [cell_setRow_far _ _ _ _ _ (by omega)]); with_reducible assumption) | ((rw [setRow_size]); with_reducible assumption) | (simp; done) | (simp [World.setCell]; first | done | omega) | (simp [go_sem, World.cell?_alloc_past, World.cell?_setCell_far, *]; done)))
  refine take_at (i := 0) (d := some 6) (v := fmt e f) rfl rfl (by kernel_rfl) (by kernel_rfl) (by kernel_rfl) (fun _ _ _ h => h) (Or.inl ⟨by rfl, (by intro w9 hSw; (try dsimp only at hSw); go_simp)⟩) hHeld ?_
  try simp only [skipL, skipA, List.foldl, Act.put, List.setIfInBounds_toArray, List.set_cons_zero, List.set_cons_succ]
  refine take_at (i := 1) (d := some 7) (v := .pointer (some ⟨w.heap.size + 1, 0, none⟩)) rfl rfl (by kernel_rfl) (by kernel_rfl) (by kernel_rfl) (fun _ _ _ h => h) (Or.inl ⟨by rfl, (by intro w9 hSw; (try dsimp only at hSw); go_simp)⟩) hHeld ?_
  try simp only [skipL, skipA, List.foldl, Act.put, List.setIfInBounds_toArray, List.set_cons_zero, List.set_cons_succ]
  refine take_at (i := 2) (d := some 8) (v := .int .i64 a) rfl rfl (by kernel_rfl) (by kernel_rfl) (by kernel_rfl) (fun _ _ _ h => h) (Or.inl ⟨by rfl, (by intro w9 hSw; (try dsimp only at hSw); go_simp)⟩) hHeld ?_
  try simp only [skipL, skipA, List.foldl, Act.put, List.setIfInBounds_toArray, List.set_cons_zero, List.set_cons_succ]
  refine wpAnyH_ready (rs := [3]) (by kernel_rfl) (by simp) ?_
  refine (AllReadyH.cons rfl (fun K hK => ?_) AllReadyH.nil)
  · go_simp
    (go_at_call 95; (with_reducible refine (NA.out _).mono ?_); rintro rv w1 ⟨rfl, hb⟩; have ns : w.heap.size + 1 < w1.heap.size := hb.ltK; have n0 : w1.cell? ⟨w.heap.size, 0, none⟩ = some (.int .i64 e) := hb.cellK; have n1 : w1.cell? ⟨w.heap.size, 1, none⟩ = some (.int .i64 f) := hb.cellK; have n2 : w1.cell? ⟨w.heap.size + 1, 0, none⟩ = some (.int .i64 a) := hb.cellK; have n3 : w1.cell? ⟨w.heap.size + 1, 1, none⟩ = some (.int .i64 b) := hb.cellK; (first | (have nx := hx.trK hb; clear hx) | have nx := hb); clear hb; try clear hs; try clear g0; try clear g1; try clear g2; try clear g3; have hx := nx; clear nx; have hs := ns; clear ns; have g0 := n0; clear n0; have g1 := n1; clear n1; have g2 := n2; clear n2; have g3 := n3; clear n3)
    dsimp only
    refine hK.out _ _ ?_ (fun hHeld => ?_)
    · ((refine ⟨?_, ?_, ?_, ?_, ?_⟩ <;> first | with_reducible assumption | ((repeat first | rw [cell_set_far _ _ _ _ _ _ (by omega)] | rw [cell_alloc_before _ _ _ _ (by omega)] | rw [cell_alloc_drew _ _ _ _ (by omega)] | rw [cell_drew]); with_reducible assumption) | ((rw [cell_setRow_far _ _ _ _ _ (by omega)]); with_reducible assumption) | ((rw [setRow_size]); with_reducible assumption) | (simp; done) | (simp [World.setCell]; first | done | omega) | (simp [go_sem, World.cell?_alloc_past, World.cell?_setCell_far, *]; done)))
    try simp only [skipL, skipA, List.foldl, Act.put, List.setIfInBounds_toArray, List.set_cons_zero, List.set_cons_succ]
    refine take_at (i := 4) (d := some 10) (v := .bool true) rfl rfl (by kernel_rfl) (by kernel_rfl) (by kernel_rfl) (fun _ _ _ h => h) (Or.inl ⟨by rfl, (by intro w9 hSw; (try dsimp only at hSw); go_simp)⟩) hHeld ?_
    try simp only [skipL, skipA, List.foldl, Act.put, List.setIfInBounds_toArray, List.set_cons_zero, List.set_cons_succ]
    refine take_at (i := 5) (d := some 11) (v := .bool true) rfl rfl (by kernel_rfl) (by kernel_rfl) (by kernel_rfl) (fun _ _ _ h => h) (Or.inl ⟨by rfl, (by intro w9 hSw; (try dsimp only at hSw); go_simp)⟩) hHeld ?_
    try simp only [skipL, skipA, List.foldl, Act.put, List.setIfInBounds_toArray, List.set_cons_zero, List.set_cons_succ]
    refine wpAnyH_skips (is := [(6, 12), (7, 13), (8, 14), (9, 15), (10, 16)]) (by kernel_rfl) (fun _ _ _ _ h => h) hHeld 19 _ _ (by kernel_rfl) ?_
    try simp only [skipL, skipA, List.foldl, Act.put, List.setIfInBounds_toArray, List.set_cons_zero, List.set_cons_succ]
    refine take_at (i := 11) (d := some 17) (v := .bool true) rfl rfl (by kernel_rfl) (by kernel_rfl) (by kernel_rfl) (fun _ _ _ h => h) (Or.inl ⟨by rfl, (by intro w9 hSw; (try dsimp only at hSw); go_simp)⟩) hHeld ?_
    try simp only [skipL, skipA, List.foldl, Act.put, List.setIfInBounds_toArray, List.set_cons_zero, List.set_cons_succ]
    refine take_at (i := 12) (d := some 18) (v := .bool true) rfl rfl (by kernel_rfl) (by kernel_rfl) (by kernel_rfl) (fun _ _ _ h => h) (Or.inl ⟨by rfl, (by intro w9 hSw; (try dsimp only at hSw); go_simp)⟩) hHeld ?_
    try simp only [skipL, skipA, List.foldl, Act.put, List.setIfInBounds_toArray, List.set_cons_zero, List.set_cons_succ]
    refine wpAnyH_skips (is := [(13, 19), (14, 20), (15, 21), (16, 22), (17, 23), (18, 24), (19, 25)]) (by kernel_rfl) (fun _ _ _ _ h => h) hHeld 10 _ _ (by kernel_rfl) ?_
    try simp only [skipL, skipA, List.foldl, Act.put, List.setIfInBounds_toArray, List.set_cons_zero, List.set_cons_succ]
    refine take_at (i := 20) (d := some 26) (v := .bool true) rfl rfl (by kernel_rfl) (by kernel_rfl) (by kernel_rfl) (fun _ _ _ h => h) (Or.inl ⟨by rfl, (by intro w9 hSw; (try dsimp only at hSw); go_simp)⟩) hHeld ?_
    try simp only [skipL, skipA, List.foldl, Act.put, List.setIfInBounds_toArray, List.set_cons_zero, List.set_cons_succ]
    refine take_at (i := 21) (d := some 27) (v := .bool true) rfl rfl (by kernel_rfl) (by kernel_rfl) (by kernel_rfl) (fun _ _ _ h => h) (Or.inl ⟨by rfl, (by intro w9 hSw; (try dsimp only at hSw); go_simp)⟩) hHeld ?_
    try simp only [skipL, skipA, List.foldl, Act.put, List.setIfInBounds_toArray, List.set_cons_zero, List.set_cons_succ]
    refine wpAnyH_skips (is := [(22, 28), (23, 29), (24, 30), (25, 31), (26, 32), (27, 33), (28, 34)]) (by kernel_rfl) (fun _ _ _ _ h => h) hHeld 1 _ _ (by kernel_rfl) ?_
    try simp only [skipL, skipA, List.foldl, Act.put, List.setIfInBounds_toArray, List.set_cons_zero, List.set_cons_succ]
    refine take_at (i := 29) (d := some 35) (v := .bool true) rfl rfl (by kernel_rfl) (by kernel_rfl) (by kernel_rfl) (fun _ _ _ h => h) (Or.inl ⟨by rfl, (by intro w9 hSw; (try dsimp only at hSw); go_simp)⟩) hHeld ?_
    try simp only [skipL, skipA, List.foldl, Act.put, List.setIfInBounds_toArray, List.set_cons_zero, List.set_cons_succ]
    refine wpAnyH_done (by kernel_rfl) ?_ _
    go_wp2_with fail
    go_ret
    exact ⟨rfl, Ext.auK⟩

set_option maxHeartbeats 6400000 in
theorem ivGood_b (e f a b : Int) (na : numB e f a = true) (nb : numB e f b = false) (w : World) : Calls Tryz.prog 50 #[fmt e f, two a b] w fun rv w' => rv = .returned (.bool false) ∧ Ext w w' := by
  have NA := Lib.hid (fun w => fmNumber_any e f a w)
  have NB := Lib.hid (fun w => fmNumber_any e f b w)
  rw [na] at NA
  rw [nb] at NB
  clear na nb
  go_enter Tryz.func50, Tryz.ntmps50
  go_wp2_with fail
  refine wp_region_held_drew (S := (fun w' => w'.cell? ⟨w.heap.size, 0, none⟩ = some (.int .i64 e) ∧ w'.cell? ⟨w.heap.size, 1, none⟩ = some (.int .i64 f) ∧ w'.cell? ⟨w.heap.size + 1, 0, none⟩ = some (.int .i64 a) ∧ w'.cell? ⟨w.heap.size + 1, 1, none⟩ = some (.int .i64 b) ∧ w.heap.size + 1 < w'.heap.size)) (by kernel_rfl) ?_ (fun hHeld => ?_)
  · ((refine ⟨?_, ?_, ?_, ?_, ?_⟩ <;> first | with_reducible assumption | ((repeat first | rw [cell_set_far _ _ _ _ _ _ (by omega)] | rw [cell_alloc_before _ _ _ _ (by omega)] | rw [cell_alloc_drew _ _ _ _ (by omega)] | rw [cell_drew]); with_reducible assumption) | ((rw [cell_setRow_far _ _ _ _ _ (by omega)]); with_reducible assumption) | ((rw [setRow_size]); with_reducible assumption) | (simp; done) | (simp [World.setCell]; first | done | omega) | (simp [go_sem, World.cell?_alloc_past, World.cell?_setCell_far, *]; done)))
  refine take_at (i := 0) (d := some 6) (v := fmt e f) rfl rfl (by kernel_rfl) (by kernel_rfl) (by kernel_rfl) (fun _ _ _ h => h) (Or.inl ⟨by rfl, (by intro w9 hSw; (try dsimp only at hSw); go_simp)⟩) hHeld ?_
  try simp only [skipL, skipA, List.foldl, Act.put, List.setIfInBounds_toArray, List.set_cons_zero, List.set_cons_succ]
  refine take_at (i := 1) (d := some 7) (v := .pointer (some ⟨w.heap.size + 1, 0, none⟩)) rfl rfl (by kernel_rfl) (by kernel_rfl) (by kernel_rfl) (fun _ _ _ h => h) (Or.inl ⟨by rfl, (by intro w9 hSw; (try dsimp only at hSw); go_simp)⟩) hHeld ?_
  try simp only [skipL, skipA, List.foldl, Act.put, List.setIfInBounds_toArray, List.set_cons_zero, List.set_cons_succ]
  refine take_at (i := 2) (d := some 8) (v := .int .i64 a) rfl rfl (by kernel_rfl) (by kernel_rfl) (by kernel_rfl) (fun _ _ _ h => h) (Or.inl ⟨by rfl, (by intro w9 hSw; (try dsimp only at hSw); go_simp)⟩) hHeld ?_
  try simp only [skipL, skipA, List.foldl, Act.put, List.setIfInBounds_toArray, List.set_cons_zero, List.set_cons_succ]
  refine wpAnyH_ready (rs := [3]) (by kernel_rfl) (by simp) ?_
  refine (AllReadyH.cons rfl (fun K hK => ?_) AllReadyH.nil)
  · go_simp
    (go_at_call 95; (with_reducible refine (NA.out _).mono ?_); rintro rv w1 ⟨rfl, hb⟩; have ns : w.heap.size + 1 < w1.heap.size := hb.ltK; have n0 : w1.cell? ⟨w.heap.size, 0, none⟩ = some (.int .i64 e) := hb.cellK; have n1 : w1.cell? ⟨w.heap.size, 1, none⟩ = some (.int .i64 f) := hb.cellK; have n2 : w1.cell? ⟨w.heap.size + 1, 0, none⟩ = some (.int .i64 a) := hb.cellK; have n3 : w1.cell? ⟨w.heap.size + 1, 1, none⟩ = some (.int .i64 b) := hb.cellK; (first | (have nx := hx.trK hb; clear hx) | have nx := hb); clear hb; try clear hs; try clear g0; try clear g1; try clear g2; try clear g3; have hx := nx; clear nx; have hs := ns; clear ns; have g0 := n0; clear n0; have g1 := n1; clear n1; have g2 := n2; clear n2; have g3 := n3; clear n3)
    dsimp only
    refine hK.out _ _ ?_ (fun hHeld => ?_)
    · ((refine ⟨?_, ?_, ?_, ?_, ?_⟩ <;> first | with_reducible assumption | ((repeat first | rw [cell_set_far _ _ _ _ _ _ (by omega)] | rw [cell_alloc_before _ _ _ _ (by omega)] | rw [cell_alloc_drew _ _ _ _ (by omega)] | rw [cell_drew]); with_reducible assumption) | ((rw [cell_setRow_far _ _ _ _ _ (by omega)]); with_reducible assumption) | ((rw [setRow_size]); with_reducible assumption) | (simp; done) | (simp [World.setCell]; first | done | omega) | (simp [go_sem, World.cell?_alloc_past, World.cell?_setCell_far, *]; done)))
    try simp only [skipL, skipA, List.foldl, Act.put, List.setIfInBounds_toArray, List.set_cons_zero, List.set_cons_succ]
    refine take_at (i := 4) (d := some 10) (v := .bool false) rfl rfl (by kernel_rfl) (by kernel_rfl) (by kernel_rfl) (fun _ _ _ h => h) (Or.inl ⟨by rfl, (by intro w9 hSw; (try dsimp only at hSw); go_simp)⟩) hHeld ?_
    try simp only [skipL, skipA, List.foldl, Act.put, List.setIfInBounds_toArray, List.set_cons_zero, List.set_cons_succ]
    refine take_at (i := 5) (d := some 11) (v := .bool false) rfl rfl (by kernel_rfl) (by kernel_rfl) (by kernel_rfl) (fun _ _ _ h => h) (Or.inl ⟨by rfl, (by intro w9 hSw; (try dsimp only at hSw); go_simp)⟩) hHeld ?_
    try simp only [skipL, skipA, List.foldl, Act.put, List.setIfInBounds_toArray, List.set_cons_zero, List.set_cons_succ]
    refine take_at (i := 6) (d := some 12) (v := fmt e f) rfl rfl (by kernel_rfl) (by kernel_rfl) (by kernel_rfl) (fun _ _ _ h => h) (Or.inl ⟨by kernel_rfl, (by intro w9 hSw; (try dsimp only at hSw); go_simp)⟩) hHeld ?_
    try simp only [skipL, skipA, List.foldl, Act.put, List.setIfInBounds_toArray, List.set_cons_zero, List.set_cons_succ]
    refine take_at (i := 7) (d := some 13) (v := .pointer (some ⟨w.heap.size + 1, 1, none⟩)) rfl rfl (by kernel_rfl) (by kernel_rfl) (by kernel_rfl) (fun _ _ _ h => h) (Or.inl ⟨by kernel_rfl, (by intro w9 hSw; (try dsimp only at hSw); go_simp)⟩) hHeld ?_
    try simp only [skipL, skipA, List.foldl, Act.put, List.setIfInBounds_toArray, List.set_cons_zero, List.set_cons_succ]
    refine take_at (i := 8) (d := some 14) (v := .int .i64 b) rfl rfl (by kernel_rfl) (by kernel_rfl) (by kernel_rfl) (fun _ _ _ h => h) (Or.inl ⟨by kernel_rfl, (by intro w9 hSw; (try dsimp only at hSw); go_simp)⟩) hHeld ?_
    try simp only [skipL, skipA, List.foldl, Act.put, List.setIfInBounds_toArray, List.set_cons_zero, List.set_cons_succ]
    refine wpAnyH_ready (rs := [9]) (by kernel_rfl) (by simp) ?_
    refine (AllReadyH.cons rfl (fun K hK => ?_) AllReadyH.nil)
    · go_simp
      (go_at_call 95; (with_reducible refine (NB.out _).mono ?_); rintro rv w1 ⟨rfl, hb⟩; have ns : w.heap.size + 1 < w1.heap.size := hb.ltK; have n0 : w1.cell? ⟨w.heap.size, 0, none⟩ = some (.int .i64 e) := hb.cellK; have n1 : w1.cell? ⟨w.heap.size, 1, none⟩ = some (.int .i64 f) := hb.cellK; have n2 : w1.cell? ⟨w.heap.size + 1, 0, none⟩ = some (.int .i64 a) := hb.cellK; have n3 : w1.cell? ⟨w.heap.size + 1, 1, none⟩ = some (.int .i64 b) := hb.cellK; (first | (have nx := hx.trK hb; clear hx) | have nx := hb); clear hb; try clear hs; try clear g0; try clear g1; try clear g2; try clear g3; have hx := nx; clear nx; have hs := ns; clear ns; have g0 := n0; clear n0; have g1 := n1; clear n1; have g2 := n2; clear n2; have g3 := n3; clear n3)
      dsimp only
      refine hK.out _ _ ?_ (fun hHeld => ?_)
      · ((refine ⟨?_, ?_, ?_, ?_, ?_⟩ <;> first | with_reducible assumption | ((repeat first | rw [cell_set_far _ _ _ _ _ _ (by omega)] | rw [cell_alloc_before _ _ _ _ (by omega)] | rw [cell_alloc_drew _ _ _ _ (by omega)] | rw [cell_drew]); with_reducible assumption) | ((rw [cell_setRow_far _ _ _ _ _ (by omega)]); with_reducible assumption) | ((rw [setRow_size]); with_reducible assumption) | (simp; done) | (simp [World.setCell]; first | done | omega) | (simp [go_sem, World.cell?_alloc_past, World.cell?_setCell_far, *]; done)))
      try simp only [skipL, skipA, List.foldl, Act.put, List.setIfInBounds_toArray, List.set_cons_zero, List.set_cons_succ]
      refine take_at (i := 10) (d := some 16) (v := .bool true) rfl rfl (by kernel_rfl) (by kernel_rfl) (by kernel_rfl) (fun _ _ _ h => h) (Or.inl ⟨by kernel_rfl, (by intro w9 hSw; (try dsimp only at hSw); go_simp)⟩) hHeld ?_
      try simp only [skipL, skipA, List.foldl, Act.put, List.setIfInBounds_toArray, List.set_cons_zero, List.set_cons_succ]
      refine take_at (i := 11) (d := some 17) (v := .bool true) rfl rfl (by kernel_rfl) (by kernel_rfl) (by kernel_rfl) (fun _ _ _ h => h) (Or.inl ⟨by rfl, (by intro w9 hSw; (try dsimp only at hSw); go_simp)⟩) hHeld ?_
      try simp only [skipL, skipA, List.foldl, Act.put, List.setIfInBounds_toArray, List.set_cons_zero, List.set_cons_succ]
      refine take_at (i := 12) (d := some 18) (v := .bool true) rfl rfl (by kernel_rfl) (by kernel_rfl) (by kernel_rfl) (fun _ _ _ h => h) (Or.inl ⟨by rfl, (by intro w9 hSw; (try dsimp only at hSw); go_simp)⟩) hHeld ?_
      try simp only [skipL, skipA, List.foldl, Act.put, List.setIfInBounds_toArray, List.set_cons_zero, List.set_cons_succ]
      refine wpAnyH_skips (is := [(13, 19), (14, 20), (15, 21), (16, 22), (17, 23), (18, 24), (19, 25)]) (by kernel_rfl) (fun _ _ _ _ h => h) hHeld 10 _ _ (by kernel_rfl) ?_
      try simp only [skipL, skipA, List.foldl, Act.put, List.setIfInBounds_toArray, List.set_cons_zero, List.set_cons_succ]
      refine take_at (i := 20) (d := some 26) (v := .bool true) rfl rfl (by kernel_rfl) (by kernel_rfl) (by kernel_rfl) (fun _ _ _ h => h) (Or.inl ⟨by rfl, (by intro w9 hSw; (try dsimp only at hSw); go_simp)⟩) hHeld ?_
      try simp only [skipL, skipA, List.foldl, Act.put, List.setIfInBounds_toArray, List.set_cons_zero, List.set_cons_succ]
      refine take_at (i := 21) (d := some 27) (v := .bool true) rfl rfl (by kernel_rfl) (by kernel_rfl) (by kernel_rfl) (fun _ _ _ h => h) (Or.inl ⟨by rfl, (by intro w9 hSw; (try dsimp only at hSw); go_simp)⟩) hHeld ?_
      try simp only [skipL, skipA, List.foldl, Act.put, List.setIfInBounds_toArray, List.set_cons_zero, List.set_cons_succ]
      refine wpAnyH_skips (is := [(22, 28), (23, 29), (24, 30), (25, 31), (26, 32), (27, 33), (28, 34)]) (by kernel_rfl) (fun _ _ _ _ h => h) hHeld 1 _ _ (by kernel_rfl) ?_
      try simp only [skipL, skipA, List.foldl, Act.put, List.setIfInBounds_toArray, List.set_cons_zero, List.set_cons_succ]
      refine take_at (i := 29) (d := some 35) (v := .bool true) rfl rfl (by kernel_rfl) (by kernel_rfl) (by kernel_rfl) (fun _ _ _ h => h) (Or.inl ⟨by rfl, (by intro w9 hSw; (try dsimp only at hSw); go_simp)⟩) hHeld ?_
      try simp only [skipL, skipA, List.foldl, Act.put, List.setIfInBounds_toArray, List.set_cons_zero, List.set_cons_succ]
      refine wpAnyH_done (by kernel_rfl) ?_ _
      go_wp2_with fail
      go_ret
      exact ⟨rfl, Ext.auK⟩

set_option maxHeartbeats 6400000 in
theorem ivGood_c (e f a b : Int) (na : numB e f a = true) (nb : numB e f b = true) (ha : enB e f a = false) (w : World) : Calls Tryz.prog 50 #[fmt e f, two a b] w fun rv w' => rv = .returned (.bool false) ∧ Ext w w' := by
  have NA := Lib.hid (fun w => fmNumber_any e f a w)
  have NB := Lib.hid (fun w => fmNumber_any e f b w)
  have pa := (num_mag.1 na).1
  have hza : ¬ izV e f a = a := fun q => by have := (iz_num na).1 (by rw [q]; simp); rw [ha] at this; cases this
  have ZA := Lib.hid (fun w => ivZero_any e f a pa w)
  generalize izV e f a = z at *
  rw [na] at NA
  rw [nb] at NB
  clear na nb ha pa
  go_enter Tryz.func50, Tryz.ntmps50
  go_wp2_with fail
  refine wp_region_held_drew (S := (fun w' => w'.cell? ⟨w.heap.size, 0, none⟩ = some (.int .i64 e) ∧ w'.cell? ⟨w.heap.size, 1, none⟩ = some (.int .i64 f) ∧ w'.cell? ⟨w.heap.size + 1, 0, none⟩ = some (.int .i64 a) ∧ w'.cell? ⟨w.heap.size + 1, 1, none⟩ = some (.int .i64 b) ∧ w.heap.size + 1 < w'.heap.size)) (by kernel_rfl) ?_ (fun hHeld => ?_)
  · ((refine ⟨?_, ?_, ?_, ?_, ?_⟩ <;> first | with_reducible assumption | ((repeat first | rw [cell_set_far _ _ _ _ _ _ (by omega)] | rw [cell_alloc_before _ _ _ _ (by omega)] | rw [cell_alloc_drew _ _ _ _ (by omega)] | rw [cell_drew]); with_reducible assumption) | ((rw [cell_setRow_far _ _ _ _ _ (by omega)]); with_reducible assumption) | ((rw [setRow_size]); with_reducible assumption) | (simp; done) | (simp [World.setCell]; first | done | omega) | (simp [go_sem, World.cell?_alloc_past, World.cell?_setCell_far, *]; done)))
  refine take_at (i := 0) (d := some 6) (v := fmt e f) rfl rfl (by kernel_rfl) (by kernel_rfl) (by kernel_rfl) (fun _ _ _ h => h) (Or.inl ⟨by rfl, (by intro w9 hSw; (try dsimp only at hSw); go_simp)⟩) hHeld ?_
  try simp only [skipL, skipA, List.foldl, Act.put, List.setIfInBounds_toArray, List.set_cons_zero, List.set_cons_succ]
  refine take_at (i := 1) (d := some 7) (v := .pointer (some ⟨w.heap.size + 1, 0, none⟩)) rfl rfl (by kernel_rfl) (by kernel_rfl) (by kernel_rfl) (fun _ _ _ h => h) (Or.inl ⟨by rfl, (by intro w9 hSw; (try dsimp only at hSw); go_simp)⟩) hHeld ?_
  try simp only [skipL, skipA, List.foldl, Act.put, List.setIfInBounds_toArray, List.set_cons_zero, List.set_cons_succ]
  refine take_at (i := 2) (d := some 8) (v := .int .i64 a) rfl rfl (by kernel_rfl) (by kernel_rfl) (by kernel_rfl) (fun _ _ _ h => h) (Or.inl ⟨by rfl, (by intro w9 hSw; (try dsimp only at hSw); go_simp)⟩) hHeld ?_
  try simp only [skipL, skipA, List.foldl, Act.put, List.setIfInBounds_toArray, List.set_cons_zero, List.set_cons_succ]
  refine wpAnyH_ready (rs := [3]) (by kernel_rfl) (by simp) ?_
  refine (AllReadyH.cons rfl (fun K hK => ?_) AllReadyH.nil)
  · go_simp
    (go_at_call 95; (with_reducible refine (NA.out _).mono ?_); rintro rv w1 ⟨rfl, hb⟩; have ns : w.heap.size + 1 < w1.heap.size := hb.ltK; have n0 : w1.cell? ⟨w.heap.size, 0, none⟩ = some (.int .i64 e) := hb.cellK; have n1 : w1.cell? ⟨w.heap.size, 1, none⟩ = some (.int .i64 f) := hb.cellK; have n2 : w1.cell? ⟨w.heap.size + 1, 0, none⟩ = some (.int .i64 a) := hb.cellK; have n3 : w1.cell? ⟨w.heap.size + 1, 1, none⟩ = some (.int .i64 b) := hb.cellK; (first | (have nx := hx.trK hb; clear hx) | have nx := hb); clear hb; try clear hs; try clear g0; try clear g1; try clear g2; try clear g3; have hx := nx; clear nx; have hs := ns; clear ns; have g0 := n0; clear n0; have g1 := n1; clear n1; have g2 := n2; clear n2; have g3 := n3; clear n3)
    dsimp only
    refine hK.out _ _ ?_ (fun hHeld => ?_)
    · ((refine ⟨?_, ?_, ?_, ?_, ?_⟩ <;> first | with_reducible assumption | ((repeat first | rw [cell_set_far _ _ _ _ _ _ (by omega)] | rw [cell_alloc_before _ _ _ _ (by omega)] | rw [cell_alloc_drew _ _ _ _ (by omega)] | rw [cell_drew]); with_reducible assumption) | ((rw [cell_setRow_far _ _ _ _ _ (by omega)]); with_reducible assumption) | ((rw [setRow_size]); with_reducible assumption) | (simp; done) | (simp [World.setCell]; first | done | omega) | (simp [go_sem, World.cell?_alloc_past, World.cell?_setCell_far, *]; done)))
    try simp only [skipL, skipA, List.foldl, Act.put, List.setIfInBounds_toArray, List.set_cons_zero, List.set_cons_succ]
    refine take_at (i := 4) (d := some 10) (v := .bool false) rfl rfl (by kernel_rfl) (by kernel_rfl) (by kernel_rfl) (fun _ _ _ h => h) (Or.inl ⟨by rfl, (by intro w9 hSw; (try dsimp only at hSw); go_simp)⟩) hHeld ?_
    try simp only [skipL, skipA, List.foldl, Act.put, List.setIfInBounds_toArray, List.set_cons_zero, List.set_cons_succ]
    refine take_at (i := 5) (d := some 11) (v := .bool false) rfl rfl (by kernel_rfl) (by kernel_rfl) (by kernel_rfl) (fun _ _ _ h => h) (Or.inl ⟨by rfl, (by intro w9 hSw; (try dsimp only at hSw); go_simp)⟩) hHeld ?_
    try simp only [skipL, skipA, List.foldl, Act.put, List.setIfInBounds_toArray, List.set_cons_zero, List.set_cons_succ]
    refine take_at (i := 6) (d := some 12) (v := fmt e f) rfl rfl (by kernel_rfl) (by kernel_rfl) (by kernel_rfl) (fun _ _ _ h => h) (Or.inl ⟨by kernel_rfl, (by intro w9 hSw; (try dsimp only at hSw); go_simp)⟩) hHeld ?_
    try simp only [skipL, skipA, List.foldl, Act.put, List.setIfInBounds_toArray, List.set_cons_zero, List.set_cons_succ]
    refine take_at (i := 7) (d := some 13) (v := .pointer (some ⟨w.heap.size + 1, 1, none⟩)) rfl rfl (by kernel_rfl) (by kernel_rfl) (by kernel_rfl) (fun _ _ _ h => h) (Or.inl ⟨by kernel_rfl, (by intro w9 hSw; (try dsimp only at hSw); go_simp)⟩) hHeld ?_
    try simp only [skipL, skipA, List.foldl, Act.put, List.setIfInBounds_toArray, List.set_cons_zero, List.set_cons_succ]
    refine take_at (i := 8) (d := some 14) (v := .int .i64 b) rfl rfl (by kernel_rfl) (by kernel_rfl) (by kernel_rfl) (fun _ _ _ h => h) (Or.inl ⟨by kernel_rfl, (by intro w9 hSw; (try dsimp only at hSw); go_simp)⟩) hHeld ?_
    try simp only [skipL, skipA, List.foldl, Act.put, List.setIfInBounds_toArray, List.set_cons_zero, List.set_cons_succ]
    refine wpAnyH_ready (rs := [9]) (by kernel_rfl) (by simp) ?_
    refine (AllReadyH.cons rfl (fun K hK => ?_) AllReadyH.nil)
    · go_simp
      (go_at_call 95; (with_reducible refine (NB.out _).mono ?_); rintro rv w1 ⟨rfl, hb⟩; have ns : w.heap.size + 1 < w1.heap.size := hb.ltK; have n0 : w1.cell? ⟨w.heap.size, 0, none⟩ = some (.int .i64 e) := hb.cellK; have n1 : w1.cell? ⟨w.heap.size, 1, none⟩ = some (.int .i64 f) := hb.cellK; have n2 : w1.cell? ⟨w.heap.size + 1, 0, none⟩ = some (.int .i64 a) := hb.cellK; have n3 : w1.cell? ⟨w.heap.size + 1, 1, none⟩ = some (.int .i64 b) := hb.cellK; (first | (have nx := hx.trK hb; clear hx) | have nx := hb); clear hb; try clear hs; try clear g0; try clear g1; try clear g2; try clear g3; have hx := nx; clear nx; have hs := ns; clear ns; have g0 := n0; clear n0; have g1 := n1; clear n1; have g2 := n2; clear n2; have g3 := n3; clear n3)
      dsimp only
      refine hK.out _ _ ?_ (fun hHeld => ?_)
      · ((refine ⟨?_, ?_, ?_, ?_, ?_⟩ <;> first | with_reducible assumption | ((repeat first | rw [cell_set_far _ _ _ _ _ _ (by omega)] | rw [cell_alloc_before _ _ _ _ (by omega)] | rw [cell_alloc_drew _ _ _ _ (by omega)] | rw [cell_drew]); with_reducible assumption) | ((rw [cell_setRow_far _ _ _ _ _ (by omega)]); with_reducible assumption) | ((rw [setRow_size]); with_reducible assumption) | (simp; done) | (simp [World.setCell]; first | done | omega) | (simp [go_sem, World.cell?_alloc_past, World.cell?_setCell_far, *]; done)))
      try simp only [skipL, skipA, List.foldl, Act.put, List.setIfInBounds_toArray, List.set_cons_zero, List.set_cons_succ]
      refine take_at (i := 10) (d := some 16) (v := .bool false) rfl rfl (by kernel_rfl) (by kernel_rfl) (by kernel_rfl) (fun _ _ _ h => h) (Or.inl ⟨by kernel_rfl, (by intro w9 hSw; (try dsimp only at hSw); go_simp)⟩) hHeld ?_
      try simp only [skipL, skipA, List.foldl, Act.put, List.setIfInBounds_toArray, List.set_cons_zero, List.set_cons_succ]
      refine take_at (i := 11) (d := some 17) (v := .bool false) rfl rfl (by kernel_rfl) (by kernel_rfl) (by kernel_rfl) (fun _ _ _ h => h) (Or.inl ⟨by rfl, (by intro w9 hSw; (try dsimp only at hSw); go_simp)⟩) hHeld ?_
      try simp only [skipL, skipA, List.foldl, Act.put, List.setIfInBounds_toArray, List.set_cons_zero, List.set_cons_succ]
      refine take_at (i := 12) (d := some 18) (v := .bool false) rfl rfl (by kernel_rfl) (by kernel_rfl) (by kernel_rfl) (fun _ _ _ h => h) (Or.inl ⟨by rfl, (by intro w9 hSw; (try dsimp only at hSw); go_simp)⟩) hHeld ?_
      try simp only [skipL, skipA, List.foldl, Act.put, List.setIfInBounds_toArray, List.set_cons_zero, List.set_cons_succ]
      refine take_at (i := 13) (d := some 19) (v := fmt e f) rfl rfl (by kernel_rfl) (by kernel_rfl) (by kernel_rfl) (fun _ _ _ h => h) (Or.inl ⟨by kernel_rfl, (by intro w9 hSw; (try dsimp only at hSw); go_simp)⟩) hHeld ?_
      try simp only [skipL, skipA, List.foldl, Act.put, List.setIfInBounds_toArray, List.set_cons_zero, List.set_cons_succ]
      refine take_at (i := 14) (d := some 20) (v := .pointer (some ⟨w.heap.size + 1, 0, none⟩)) rfl rfl (by kernel_rfl) (by kernel_rfl) (by kernel_rfl) (fun _ _ _ h => h) (Or.inl ⟨by kernel_rfl, (by intro w9 hSw; (try dsimp only at hSw); go_simp)⟩) hHeld ?_
      try simp only [skipL, skipA, List.foldl, Act.put, List.setIfInBounds_toArray, List.set_cons_zero, List.set_cons_succ]
      refine take_at (i := 15) (d := some 21) (v := .int .i64 a) rfl rfl (by kernel_rfl) (by kernel_rfl) (by kernel_rfl) (fun _ _ _ h => h) (Or.inl ⟨by kernel_rfl, (by intro w9 hSw; (try dsimp only at hSw); go_simp)⟩) hHeld ?_
      try simp only [skipL, skipA, List.foldl, Act.put, List.setIfInBounds_toArray, List.set_cons_zero, List.set_cons_succ]
      refine take_at (i := 17) (d := some 23) (v := .pointer (some ⟨w.heap.size + 1, 0, none⟩)) rfl rfl (by kernel_rfl) (by kernel_rfl) (by kernel_rfl) (fun _ _ _ h => h) (Or.inl ⟨by kernel_rfl, (by intro w9 hSw; (try dsimp only at hSw); go_simp)⟩) hHeld ?_
      try simp only [skipL, skipA, List.foldl, Act.put, List.setIfInBounds_toArray, List.set_cons_zero, List.set_cons_succ]
      refine take_at (i := 18) (d := some 24) (v := .int .i64 a) rfl rfl (by kernel_rfl) (by kernel_rfl) (by kernel_rfl) (fun _ _ _ h => h) (Or.inl ⟨by kernel_rfl, (by intro w9 hSw; (try dsimp only at hSw); go_simp)⟩) hHeld ?_
      try simp only [skipL, skipA, List.foldl, Act.put, List.setIfInBounds_toArray, List.set_cons_zero, List.set_cons_succ]
      refine wpAnyH_ready (rs := [16]) (by kernel_rfl) (by simp) ?_
      refine (AllReadyH.cons rfl (fun K hK => ?_) AllReadyH.nil)
      · go_simp
        (go_at_call 96; (with_reducible refine (ZA.out _).mono ?_); rintro rv w1 ⟨rfl, hb⟩; have ns : w.heap.size + 1 < w1.heap.size := hb.ltK; have n0 : w1.cell? ⟨w.heap.size, 0, none⟩ = some (.int .i64 e) := hb.cellK; have n1 : w1.cell? ⟨w.heap.size, 1, none⟩ = some (.int .i64 f) := hb.cellK; have n2 : w1.cell? ⟨w.heap.size + 1, 0, none⟩ = some (.int .i64 a) := hb.cellK; have n3 : w1.cell? ⟨w.heap.size + 1, 1, none⟩ = some (.int .i64 b) := hb.cellK; (first | (have nx := hx.trK hb; clear hx) | have nx := hb); clear hb; try clear hs; try clear g0; try clear g1; try clear g2; try clear g3; have hx := nx; clear nx; have hs := ns; clear ns; have g0 := n0; clear n0; have g1 := n1; clear n1; have g2 := n2; clear n2; have g3 := n3; clear n3)
        dsimp only
        refine hK.out _ _ ?_ (fun hHeld => ?_)
        · ((refine ⟨?_, ?_, ?_, ?_, ?_⟩ <;> first | with_reducible assumption | ((repeat first | rw [cell_set_far _ _ _ _ _ _ (by omega)] | rw [cell_alloc_before _ _ _ _ (by omega)] | rw [cell_alloc_drew _ _ _ _ (by omega)] | rw [cell_drew]); with_reducible assumption) | ((rw [cell_setRow_far _ _ _ _ _ (by omega)]); with_reducible assumption) | ((rw [setRow_size]); with_reducible assumption) | (simp; done) | (simp [World.setCell]; first | done | omega) | (simp [go_sem, World.cell?_alloc_past, World.cell?_setCell_far, *]; done)))
        try simp only [skipL, skipA, List.foldl, Act.put, List.setIfInBounds_toArray, List.set_cons_zero, List.set_cons_succ]
        refine take_at (i := 19) (d := some 25) (v := .bool true) rfl rfl (by kernel_rfl) (by kernel_rfl) (by kernel_rfl) (fun _ _ _ h => h) (Or.inl ⟨by kernel_rfl, (by intro w9 hSw; (try dsimp only at hSw); go_simp)⟩) hHeld ?_
        try simp only [skipL, skipA, List.foldl, Act.put, List.setIfInBounds_toArray, List.set_cons_zero, List.set_cons_succ]
        refine take_at (i := 20) (d := some 26) (v := .bool true) rfl rfl (by kernel_rfl) (by kernel_rfl) (by kernel_rfl) (fun _ _ _ h => h) (Or.inl ⟨by rfl, (by intro w9 hSw; (try dsimp only at hSw); go_simp)⟩) hHeld ?_
        try simp only [skipL, skipA, List.foldl, Act.put, List.setIfInBounds_toArray, List.set_cons_zero, List.set_cons_succ]
        refine take_at (i := 21) (d := some 27) (v := .bool true) rfl rfl (by kernel_rfl) (by kernel_rfl) (by kernel_rfl) (fun _ _ _ h => h) (Or.inl ⟨by rfl, (by intro w9 hSw; (try dsimp only at hSw); go_simp)⟩) hHeld ?_
        try simp only [skipL, skipA, List.foldl, Act.put, List.setIfInBounds_toArray, List.set_cons_zero, List.set_cons_succ]
        refine wpAnyH_skips (is := [(22, 28), (23, 29), (24, 30), (25, 31), (26, 32), (27, 33), (28, 34)]) (by kernel_rfl) (fun _ _ _ _ h => h) hHeld 1 _ _ (by kernel_rfl) ?_
        try simp only [skipL, skipA, List.foldl, Act.put, List.setIfInBounds_toArray, List.set_cons_zero, List.set_cons_succ]
        refine take_at (i := 29) (d := some 35) (v := .bool true) rfl rfl (by kernel_rfl) (by kernel_rfl) (by kernel_rfl) (fun _ _ _ h => h) (Or.inl ⟨by rfl, (by intro w9 hSw; (try dsimp only at hSw); go_simp)⟩) hHeld ?_
        try simp only [skipL, skipA, List.foldl, Act.put, List.setIfInBounds_toArray, List.set_cons_zero, List.set_cons_succ]
        refine wpAnyH_done (by kernel_rfl) ?_ _
        go_wp2_with fail
        go_ret
        exact ⟨rfl, Ext.auK⟩

set_option maxHeartbeats 6400000 in
theorem ivGood_d (e f a b : Int) (na : numB e f a = true) (nb : numB e f b = true) (ha : enB e f a = true) (hb : enB e f b = false) (w : World) : Calls Tryz.prog 50 #[fmt e f, two a b] w fun rv w' => rv = .returned (.bool false) ∧ Ext w w' := by
  have NA := Lib.hid (fun w => fmNumber_any e f a w)
  have NB := Lib.hid (fun w => fmNumber_any e f b w)
  have pa := (num_mag.1 na).1
  have pb := (num_mag.1 nb).1
  have hza : ¬ izV e f b = b := fun q => by have := (iz_num nb).1 (by rw [q]; simp); rw [hb] at this; cases this
  have ZA := Lib.hid (fun w => ivZero_any e f a pa w)
  have ZB := Lib.hid (fun w => ivZero_any e f b pb w)
  rw [iz_end ha] at ZA
  generalize izV e f b = z at *
  rw [na] at NA
  rw [nb] at NB
  clear na nb ha hb pa pb
  go_enter Tryz.func50, Tryz.ntmps50
  go_wp2_with fail
  refine wp_region_held_drew (S := (fun w' => w'.cell? ⟨w.heap.size, 0, none⟩ = some (.int .i64 e) ∧ w'.cell? ⟨w.heap.size, 1, none⟩ = some (.int .i64 f) ∧ w'.cell? ⟨w.heap.size + 1, 0, none⟩ = some (.int .i64 a) ∧ w'.cell? ⟨w.heap.size + 1, 1, none⟩ = some (.int .i64 b) ∧ w.heap.size + 1 < w'.heap.size)) (by kernel_rfl) ?_ (fun hHeld => ?_)
  · ((refine ⟨?_, ?_, ?_, ?_, ?_⟩ <;> first | with_reducible assumption | ((repeat first | rw [cell_set_far _ _ _ _ _ _ (by omega)] | rw [cell_alloc_before _ _ _ _ (by omega)] | rw [cell_alloc_drew _ _ _ _ (by omega)] | rw [cell_drew]); with_reducible assumption) | ((rw [cell_setRow_far _ _ _ _ _ (by omega)]); with_reducible assumption) | ((rw [setRow_size]); with_reducible assumption) | (simp; done) | (simp [World.setCell]; first | done | omega) | (simp [go_sem, World.cell?_alloc_past, World.cell?_setCell_far, *]; done)))
  refine take_at (i := 0) (d := some 6) (v := fmt e f) rfl rfl (by kernel_rfl) (by kernel_rfl) (by kernel_rfl) (fun _ _ _ h => h) (Or.inl ⟨by rfl, (by intro w9 hSw; (try dsimp only at hSw); go_simp)⟩) hHeld ?_
  try simp only [skipL, skipA, List.foldl, Act.put, List.setIfInBounds_toArray, List.set_cons_zero, List.set_cons_succ]
  refine take_at (i := 1) (d := some 7) (v := .pointer (some ⟨w.heap.size + 1, 0, none⟩)) rfl rfl (by kernel_rfl) (by kernel_rfl) (by kernel_rfl) (fun _ _ _ h => h) (Or.inl ⟨by rfl, (by intro w9 hSw; (try dsimp only at hSw); go_simp)⟩) hHeld ?_
  try simp only [skipL, skipA, List.foldl, Act.put, List.setIfInBounds_toArray, List.set_cons_zero, List.set_cons_succ]
  refine take_at (i := 2) (d := some 8) (v := .int .i64 a) rfl rfl (by kernel_rfl) (by kernel_rfl) (by kernel_rfl) (fun _ _ _ h => h) (Or.inl ⟨by rfl, (by intro w9 hSw; (try dsimp only at hSw); go_simp)⟩) hHeld ?_
  try simp only [skipL, skipA, List.foldl, Act.put, List.setIfInBounds_toArray, List.set_cons_zero, List.set_cons_succ]
  refine wpAnyH_ready (rs := [3]) (by kernel_rfl) (by simp) ?_
  refine (AllReadyH.cons rfl (fun K hK => ?_) AllReadyH.nil)
  · go_simp
    (go_at_call 95; (with_reducible refine (NA.out _).mono ?_); rintro rv w1 ⟨rfl, hb⟩; have ns : w.heap.size + 1 < w1.heap.size := hb.ltK; have n0 : w1.cell? ⟨w.heap.size, 0, none⟩ = some (.int .i64 e) := hb.cellK; have n1 : w1.cell? ⟨w.heap.size, 1, none⟩ = some (.int .i64 f) := hb.cellK; have n2 : w1.cell? ⟨w.heap.size + 1, 0, none⟩ = some (.int .i64 a) := hb.cellK; have n3 : w1.cell? ⟨w.heap.size + 1, 1, none⟩ = some (.int .i64 b) := hb.cellK; (first | (have nx := hx.trK hb; clear hx) | have nx := hb); clear hb; try clear hs; try clear g0; try clear g1; try clear g2; try clear g3; have hx := nx; clear nx; have hs := ns; clear ns; have g0 := n0; clear n0; have g1 := n1; clear n1; have g2 := n2; clear n2; have g3 := n3; clear n3)
    dsimp only
    refine hK.out _ _ ?_ (fun hHeld => ?_)
    · ((refine ⟨?_, ?_, ?_, ?_, ?_⟩ <;> first | with_reducible assumption | ((repeat first | rw [cell_set_far _ _ _ _ _ _ (by omega)] | rw [cell_alloc_before _ _ _ _ (by omega)] | rw [cell_alloc_drew _ _ _ _ (by omega)] | rw [cell_drew]); with_reducible assumption) | ((rw [cell_setRow_far _ _ _ _ _ (by omega)]); with_reducible assumption) | ((rw [setRow_size]); with_reducible assumption) | (simp; done) | (simp [World.setCell]; first | done | omega) | (simp [go_sem, World.cell?_alloc_past, World.cell?_setCell_far, *]; done)))
    try simp only [skipL, skipA, List.foldl, Act.put, List.setIfInBounds_toArray, List.set_cons_zero, List.set_cons_succ]
    refine take_at (i := 4) (d := some 10) (v := .bool false) rfl rfl (by kernel_rfl) (by kernel_rfl) (by kernel_rfl) (fun _ _ _ h => h) (Or.inl ⟨by rfl, (by intro w9 hSw; (try dsimp only at hSw); go_simp)⟩) hHeld ?_
    try simp only [skipL, skipA, List.foldl, Act.put, List.setIfInBounds_toArray, List.set_cons_zero, List.set_cons_succ]
    refine take_at (i := 5) (d := some 11) (v := .bool false) rfl rfl (by kernel_rfl) (by kernel_rfl) (by kernel_rfl) (fun _ _ _ h => h) (Or.inl ⟨by rfl, (by intro w9 hSw; (try dsimp only at hSw); go_simp)⟩) hHeld ?_
    try simp only [skipL, skipA, List.foldl, Act.put, List.setIfInBounds_toArray, List.set_cons_zero, List.set_cons_succ]
    refine take_at (i := 6) (d := some 12) (v := fmt e f) rfl rfl (by kernel_rfl) (by kernel_rfl) (by kernel_rfl) (fun _ _ _ h => h) (Or.inl ⟨by kernel_rfl, (by intro w9 hSw; (try dsimp only at hSw); go_simp)⟩) hHeld ?_
    try simp only [skipL, skipA, List.foldl, Act.put, List.setIfInBounds_toArray, List.set_cons_zero, List.set_cons_succ]
    refine take_at (i := 7) (d := some 13) (v := .pointer (some ⟨w.heap.size + 1, 1, none⟩)) rfl rfl (by kernel_rfl) (by kernel_rfl) (by kernel_rfl) (fun _ _ _ h => h) (Or.inl ⟨by kernel_rfl, (by intro w9 hSw; (try dsimp only at hSw); go_simp)⟩) hHeld ?_
    try simp only [skipL, skipA, List.foldl, Act.put, List.setIfInBounds_toArray, List.set_cons_zero, List.set_cons_succ]
    refine take_at (i := 8) (d := some 14) (v := .int .i64 b) rfl rfl (by kernel_rfl) (by kernel_rfl) (by kernel_rfl) (fun _ _ _ h => h) (Or.inl ⟨by kernel_rfl, (by intro w9 hSw; (try dsimp only at hSw); go_simp)⟩) hHeld ?_
    try simp only [skipL, skipA, List.foldl, Act.put, List.setIfInBounds_toArray, List.set_cons_zero, List.set_cons_succ]
    refine wpAnyH_ready (rs := [9]) (by kernel_rfl) (by simp) ?_
    refine (AllReadyH.cons rfl (fun K hK => ?_) AllReadyH.nil)
    · go_simp
      (go_at_call 95; (with_reducible refine (NB.out _).mono ?_); rintro rv w1 ⟨rfl, hb⟩; have ns : w.heap.size + 1 < w1.heap.size := hb.ltK; have n0 : w1.cell? ⟨w.heap.size, 0, none⟩ = some (.int .i64 e) := hb.cellK; have n1 : w1.cell? ⟨w.heap.size, 1, none⟩ = some (.int .i64 f) := hb.cellK; have n2 : w1.cell? ⟨w.heap.size + 1, 0, none⟩ = some (.int .i64 a) := hb.cellK; have n3 : w1.cell? ⟨w.heap.size + 1, 1, none⟩ = some (.int .i64 b) := hb.cellK; (first | (have nx := hx.trK hb; clear hx) | have nx := hb); clear hb; try clear hs; try clear g0; try clear g1; try clear g2; try clear g3; have hx := nx; clear nx; have hs := ns; clear ns; have g0 := n0; clear n0; have g1 := n1; clear n1; have g2 := n2; clear n2; have g3 := n3; clear n3)
      dsimp only
      refine hK.out _ _ ?_ (fun hHeld => ?_)
      · ((refine ⟨?_, ?_, ?_, ?_, ?_⟩ <;> first | with_reducible assumption | ((repeat first | rw [cell_set_far _ _ _ _ _ _ (by omega)] | rw [cell_alloc_before _ _ _ _ (by omega)] | rw [cell_alloc_drew _ _ _ _ (by omega)] | rw [cell_drew]); with_reducible assumption) | ((rw [cell_setRow_far _ _ _ _ _ (by omega)]); with_reducible assumption) | ((rw [setRow_size]); with_reducible assumption) | (simp; done) | (simp [World.setCell]; first | done | omega) | (simp [go_sem, World.cell?_alloc_past, World.cell?_setCell_far, *]; done)))
      try simp only [skipL, skipA, List.foldl, Act.put, List.setIfInBounds_toArray, List.set_cons_zero, List.set_cons_succ]
      refine take_at (i := 10) (d := some 16) (v := .bool false) rfl rfl (by kernel_rfl) (by kernel_rfl) (by kernel_rfl) (fun _ _ _ h => h) (Or.inl ⟨by kernel_rfl, (by intro w9 hSw; (try dsimp only at hSw); go_simp)⟩) hHeld ?_
      try simp only [skipL, skipA, List.foldl, Act.put, List.setIfInBounds_toArray, List.set_cons_zero, List.set_cons_succ]
      refine take_at (i := 11) (d := some 17) (v := .bool false) rfl rfl (by kernel_rfl) (by kernel_rfl) (by kernel_rfl) (fun _ _ _ h => h) (Or.inl ⟨by rfl, (by intro w9 hSw; (try dsimp only at hSw); go_simp)⟩) hHeld ?_
      try simp only [skipL, skipA, List.foldl, Act.put, List.setIfInBounds_toArray, List.set_cons_zero, List.set_cons_succ]
      refine take_at (i := 12) (d := some 18) (v := .bool false) rfl rfl (by kernel_rfl) (by kernel_rfl) (by kernel_rfl) (fun _ _ _ h => h) (Or.inl ⟨by rfl, (by intro w9 hSw; (try dsimp only at hSw); go_simp)⟩) hHeld ?_
      try simp only [skipL, skipA, List.foldl, Act.put, List.setIfInBounds_toArray, List.set_cons_zero, List.set_cons_succ]
      refine take_at (i := 13) (d := some 19) (v := fmt e f) rfl rfl (by kernel_rfl) (by kernel_rfl) (by kernel_rfl) (fun _ _ _ h => h) (Or.inl ⟨by kernel_rfl, (by intro w9 hSw; (try dsimp only at hSw); go_simp)⟩) hHeld ?_
      try simp only [skipL, skipA, List.foldl, Act.put, List.setIfInBounds_toArray, List.set_cons_zero, List.set_cons_succ]
      refine take_at (i := 14) (d := some 20) (v := .pointer (some ⟨w.heap.size + 1, 0, none⟩)) rfl rfl (by kernel_rfl) (by kernel_rfl) (by kernel_rfl) (fun _ _ _ h => h) (Or.inl ⟨by kernel_rfl, (by intro w9 hSw; (try dsimp only at hSw); go_simp)⟩) hHeld ?_
      try simp only [skipL, skipA, List.foldl, Act.put, List.setIfInBounds_toArray, List.set_cons_zero, List.set_cons_succ]
      refine take_at (i := 15) (d := some 21) (v := .int .i64 a) rfl rfl (by kernel_rfl) (by kernel_rfl) (by kernel_rfl) (fun _ _ _ h => h) (Or.inl ⟨by kernel_rfl, (by intro w9 hSw; (try dsimp only at hSw); go_simp)⟩) hHeld ?_
      try simp only [skipL, skipA, List.foldl, Act.put, List.setIfInBounds_toArray, List.set_cons_zero, List.set_cons_succ]
      refine take_at (i := 17) (d := some 23) (v := .pointer (some ⟨w.heap.size + 1, 0, none⟩)) rfl rfl (by kernel_rfl) (by kernel_rfl) (by kernel_rfl) (fun _ _ _ h => h) (Or.inl ⟨by kernel_rfl, (by intro w9 hSw; (try dsimp only at hSw); go_simp)⟩) hHeld ?_
      try simp only [skipL, skipA, List.foldl, Act.put, List.setIfInBounds_toArray, List.set_cons_zero, List.set_cons_succ]
      refine take_at (i := 18) (d := some 24) (v := .int .i64 a) rfl rfl (by kernel_rfl) (by kernel_rfl) (by kernel_rfl) (fun _ _ _ h => h) (Or.inl ⟨by kernel_rfl, (by intro w9 hSw; (try dsimp only at hSw); go_simp)⟩) hHeld ?_
      try simp only [skipL, skipA, List.foldl, Act.put, List.setIfInBounds_toArray, List.set_cons_zero, List.set_cons_succ]
      refine wpAnyH_ready (rs := [16]) (by kernel_rfl) (by simp) ?_
      refine (AllReadyH.cons rfl (fun K hK => ?_) AllReadyH.nil)
      · go_simp
        (go_at_call 96; (with_reducible refine (ZA.out _).mono ?_); rintro rv w1 ⟨rfl, hb⟩; have ns : w.heap.size + 1 < w1.heap.size := hb.ltK; have n0 : w1.cell? ⟨w.heap.size, 0, none⟩ = some (.int .i64 e) := hb.cellK; have n1 : w1.cell? ⟨w.heap.size, 1, none⟩ = some (.int .i64 f) := hb.cellK; have n2 : w1.cell? ⟨w.heap.size + 1, 0, none⟩ = some (.int .i64 a) := hb.cellK; have n3 : w1.cell? ⟨w.heap.size + 1, 1, none⟩ = some (.int .i64 b) := hb.cellK; (first | (have nx := hx.trK hb; clear hx) | have nx := hb); clear hb; try clear hs; try clear g0; try clear g1; try clear g2; try clear g3; have hx := nx; clear nx; have hs := ns; clear ns; have g0 := n0; clear n0; have g1 := n1; clear n1; have g2 := n2; clear n2; have g3 := n3; clear n3)
        dsimp only
        refine hK.out _ _ ?_ (fun hHeld => ?_)
        · ((refine ⟨?_, ?_, ?_, ?_, ?_⟩ <;> first | with_reducible assumption | ((repeat first | rw [cell_set_far _ _ _ _ _ _ (by omega)] | rw [cell_alloc_before _ _ _ _ (by omega)] | rw [cell_alloc_drew _ _ _ _ (by omega)] | rw [cell_drew]); with_reducible assumption) | ((rw [cell_setRow_far _ _ _ _ _ (by omega)]); with_reducible assumption) | ((rw [setRow_size]); with_reducible assumption) | (simp; done) | (simp [World.setCell]; first | done | omega) | (simp [go_sem, World.cell?_alloc_past, World.cell?_setCell_far, *]; done)))
        try simp only [skipL, skipA, List.foldl, Act.put, List.setIfInBounds_toArray, List.set_cons_zero, List.set_cons_succ]
        refine take_at (i := 19) (d := some 25) (v := .bool false) rfl rfl (by kernel_rfl) (by kernel_rfl) (by kernel_rfl) (fun _ _ _ h => h) (Or.inl ⟨by kernel_rfl, (by intro w9 hSw; (try dsimp only at hSw); go_simp)⟩) hHeld ?_
        try simp only [skipL, skipA, List.foldl, Act.put, List.setIfInBounds_toArray, List.set_cons_zero, List.set_cons_succ]
        refine take_at (i := 20) (d := some 26) (v := .bool false) rfl rfl (by kernel_rfl) (by kernel_rfl) (by kernel_rfl) (fun _ _ _ h => h) (Or.inl ⟨by rfl, (by intro w9 hSw; (try dsimp only at hSw); go_simp)⟩) hHeld ?_
        try simp only [skipL, skipA, List.foldl, Act.put, List.setIfInBounds_toArray, List.set_cons_zero, List.set_cons_succ]
        refine take_at (i := 21) (d := some 27) (v := .bool false) rfl rfl (by kernel_rfl) (by kernel_rfl) (by kernel_rfl) (fun _ _ _ h => h) (Or.inl ⟨by rfl, (by intro w9 hSw; (try dsimp only at hSw); go_simp)⟩) hHeld ?_
        try simp only [skipL, skipA, List.foldl, Act.put, List.setIfInBounds_toArray, List.set_cons_zero, List.set_cons_succ]
        refine take_at (i := 22) (d := some 28) (v := fmt e f) rfl rfl (by kernel_rfl) (by kernel_rfl) (by kernel_rfl) (fun _ _ _ h => h) (Or.inl ⟨by kernel_rfl, (by intro w9 hSw; (try dsimp only at hSw); go_simp)⟩) hHeld ?_
        try simp only [skipL, skipA, List.foldl, Act.put, List.setIfInBounds_toArray, List.set_cons_zero, List.set_cons_succ]
        refine take_at (i := 23) (d := some 29) (v := .pointer (some ⟨w.heap.size + 1, 1, none⟩)) rfl rfl (by kernel_rfl) (by kernel_rfl) (by kernel_rfl) (fun _ _ _ h => h) (Or.inl ⟨by kernel_rfl, (by intro w9 hSw; (try dsimp only at hSw); go_simp)⟩) hHeld ?_
        try simp only [skipL, skipA, List.foldl, Act.put, List.setIfInBounds_toArray, List.set_cons_zero, List.set_cons_succ]
        refine take_at (i := 24) (d := some 30) (v := .int .i64 b) rfl rfl (by kernel_rfl) (by kernel_rfl) (by kernel_rfl) (fun _ _ _ h => h) (Or.inl ⟨by kernel_rfl, (by intro w9 hSw; (try dsimp only at hSw); go_simp)⟩) hHeld ?_
        try simp only [skipL, skipA, List.foldl, Act.put, List.setIfInBounds_toArray, List.set_cons_zero, List.set_cons_succ]
        refine take_at (i := 26) (d := some 32) (v := .pointer (some ⟨w.heap.size + 1, 1, none⟩)) rfl rfl (by kernel_rfl) (by kernel_rfl) (by kernel_rfl) (fun _ _ _ h => h) (Or.inl ⟨by kernel_rfl, (by intro w9 hSw; (try dsimp only at hSw); go_simp)⟩) hHeld ?_
        try simp only [skipL, skipA, List.foldl, Act.put, List.setIfInBounds_toArray, List.set_cons_zero, List.set_cons_succ]
        refine take_at (i := 27) (d := some 33) (v := .int .i64 b) rfl rfl (by kernel_rfl) (by kernel_rfl) (by kernel_rfl) (fun _ _ _ h => h) (Or.inl ⟨by kernel_rfl, (by intro w9 hSw; (try dsimp only at hSw); go_simp)⟩) hHeld ?_
        try simp only [skipL, skipA, List.foldl, Act.put, List.setIfInBounds_toArray, List.set_cons_zero, List.set_cons_succ]
        refine wpAnyH_ready (rs := [25]) (by kernel_rfl) (by simp) ?_
        refine (AllReadyH.cons rfl (fun K hK => ?_) AllReadyH.nil)
        · go_simp
          (go_at_call 96; (with_reducible refine (ZB.out _).mono ?_); rintro rv w1 ⟨rfl, hb⟩; have ns : w.heap.size + 1 < w1.heap.size := hb.ltK; have n0 : w1.cell? ⟨w.heap.size, 0, none⟩ = some (.int .i64 e) := hb.cellK; have n1 : w1.cell? ⟨w.heap.size, 1, none⟩ = some (.int .i64 f) := hb.cellK; have n2 : w1.cell? ⟨w.heap.size + 1, 0, none⟩ = some (.int .i64 a) := hb.cellK; have n3 : w1.cell? ⟨w.heap.size + 1, 1, none⟩ = some (.int .i64 b) := hb.cellK; (first | (have nx := hx.trK hb; clear hx) | have nx := hb); clear hb; try clear hs; try clear g0; try clear g1; try clear g2; try clear g3; have hx := nx; clear nx; have hs := ns; clear ns; have g0 := n0; clear n0; have g1 := n1; clear n1; have g2 := n2; clear n2; have g3 := n3; clear n3)
          dsimp only
          refine hK.out _ _ ?_ (fun hHeld => ?_)
          · ((refine ⟨?_, ?_, ?_, ?_, ?_⟩ <;> first | with_reducible assumption | ((repeat first | rw [cell_set_far _ _ _ _ _ _ (by omega)] | rw [cell_alloc_before _ _ _ _ (by omega)] | rw [cell_alloc_drew _ _ _ _ (by omega)] | rw [cell_drew]); with_reducible assumption) | ((rw [cell_setRow_far _ _ _ _ _ (by omega)]); with_reducible assumption) | ((rw [setRow_size]); with_reducible assumption) | (simp; done) | (simp [World.setCell]; first | done | omega) | (simp [go_sem, World.cell?_alloc_past, World.cell?_setCell_far, *]; done)))
          try simp only [skipL, skipA, List.foldl, Act.put, List.setIfInBounds_toArray, List.set_cons_zero, List.set_cons_succ]
          refine take_at (i := 28) (d := some 34) (v := .bool true) rfl rfl (by kernel_rfl) (by kernel_rfl) (by kernel_rfl) (fun _ _ _ h => h) (Or.inl ⟨by kernel_rfl, (by intro w9 hSw; (try dsimp only at hSw); go_simp)⟩) hHeld ?_
          try simp only [skipL, skipA, List.foldl, Act.put, List.setIfInBounds_toArray, List.set_cons_zero, List.set_cons_succ]
          refine take_at (i := 29) (d := some 35) (v := .bool true) rfl rfl (by kernel_rfl) (by kernel_rfl) (by kernel_rfl) (fun _ _ _ h => h) (Or.inl ⟨by rfl, (by intro w9 hSw; (try dsimp only at hSw); go_simp)⟩) hHeld ?_
          try simp only [skipL, skipA, List.foldl, Act.put, List.setIfInBounds_toArray, List.set_cons_zero, List.set_cons_succ]
          refine wpAnyH_done (by kernel_rfl) ?_ _
          go_wp2_with fail
          go_ret
          exact ⟨rfl, Ext.auK⟩

set_option maxHeartbeats 12800000 in
theorem ivGood_e (e f a b : Int) (ha : enB e f a = true) (hb : enB e f b = true) (hle : ¬ ikV e f a ≤ ikV e f b) (w : World) : Calls Tryz.prog 50 #[fmt e f, two a b] w fun rv w' => rv = .returned (.bool false) ∧ Ext w w' := by
  have NA := Lib.hid (fun w => fmNumber_any e f a w)
  have NB := Lib.hid (fun w => fmNumber_any e f b w)
  obtain ⟨hg, na, pa, _⟩ := en_parts ha
  obtain ⟨_, nb, pb, _⟩ := en_parts hb
  have ZA := Lib.hid (fun w => ivZero_any e f a pa w)
  have ZB := Lib.hid (fun w => ivZero_any e f b pb w)
  rw [iz_end ha] at ZA
  rw [iz_end hb] at ZB
  rw [na] at NA
  rw [nb] at NB
  have KA : RowKit.Hid (∀ w, Calls Tryz.prog 98 #[fmt e f, .int .i64 a] w fun rv w' => rv = .returned (.int .i64 (ikV e f a)) ∧ Ext w w') := Lib.hid (fun w => fmKey_any e f a pa w)
  have KB : RowKit.Hid (∀ w, Calls Tryz.prog 98 #[fmt e f, .int .i64 b] w fun rv w' => rv = .returned (.int .i64 (ikV e f b)) ∧ Ext w w') := Lib.hid (fun w => fmKey_any e f b pb w)
  obtain ⟨i0, i1, i2⟩ := in_bd hg
  have pI : patB e f (inV e f) = true := pat_iff.2 ⟨hg, by omega, by omega⟩
  have e1 : inV e f / pw (e + f) = 0 := Int.ediv_eq_zero_of_lt (by omega) i1
  have e2 : inV e f % pw (e + f) = inV e f := Int.emod_eq_of_lt (by omega) i1
  have NG := fun w => fmNegate_any e f (inV e f) pI w
  have e3 : (1 - inV e f / pw (e + f)) * pw (e + f) + inV e f % pw (e + f) = pw (e + f) + inV e f := by rw [e1, e2]; omega
  rw [e3] at NG
  have NG := Lib.hid NG
  have IF : RowKit.Hid (∀ w, Calls Tryz.prog 97 #[fmt e f] w fun rv w' => rv = .returned (.int .i64 (inV e f)) ∧ Ext w w') := Lib.hid (fun w => fmInfinite_any e f hg w)
  clear ha hb na nb pa pb hg i0 i1 i2 pI e1 e2 e3
  generalize ikV e f a = ka at *
  generalize ikV e f b = kb at *
  generalize pw (e + f) + inV e f = M at *
  generalize inV e f = G at *
  go_enter Tryz.func50, Tryz.ntmps50
  go_wp2_with fail
  refine wp_region_held_drew (S := (fun w' => w'.cell? ⟨w.heap.size, 0, none⟩ = some (.int .i64 e) ∧ w'.cell? ⟨w.heap.size, 1, none⟩ = some (.int .i64 f) ∧ w'.cell? ⟨w.heap.size + 1, 0, none⟩ = some (.int .i64 a) ∧ w'.cell? ⟨w.heap.size + 1, 1, none⟩ = some (.int .i64 b) ∧ w.heap.size + 1 < w'.heap.size)) (by kernel_rfl) ?_ (fun hHeld => ?_)
  · ((refine ⟨?_, ?_, ?_, ?_, ?_⟩ <;> first | with_reducible assumption | ((repeat first | rw [cell_set_far _ _ _ _ _ _ (by omega)] | rw [cell_alloc_before _ _ _ _ (by omega)] | rw [cell_alloc_drew _ _ _ _ (by omega)] | rw [cell_drew]); with_reducible assumption) | ((rw [cell_setRow_far _ _ _ _ _ (by omega)]); with_reducible assumption) | ((rw [setRow_size]); with_reducible assumption) | (simp; done) | (simp [World.setCell]; first | done | omega) | (simp [go_sem, World.cell?_alloc_past, World.cell?_setCell_far, *]; done)))
  refine take_at (i := 0) (d := some 6) (v := fmt e f) rfl rfl (by kernel_rfl) (by kernel_rfl) (by kernel_rfl) (fun _ _ _ h => h) (Or.inl ⟨by rfl, (by intro w9 hSw; (try dsimp only at hSw); go_simp)⟩) hHeld ?_
  try simp only [skipL, skipA, List.foldl, Act.put, List.setIfInBounds_toArray, List.set_cons_zero, List.set_cons_succ]
  refine take_at (i := 1) (d := some 7) (v := .pointer (some ⟨w.heap.size + 1, 0, none⟩)) rfl rfl (by kernel_rfl) (by kernel_rfl) (by kernel_rfl) (fun _ _ _ h => h) (Or.inl ⟨by rfl, (by intro w9 hSw; (try dsimp only at hSw); go_simp)⟩) hHeld ?_
  try simp only [skipL, skipA, List.foldl, Act.put, List.setIfInBounds_toArray, List.set_cons_zero, List.set_cons_succ]
  refine take_at (i := 2) (d := some 8) (v := .int .i64 a) rfl rfl (by kernel_rfl) (by kernel_rfl) (by kernel_rfl) (fun _ _ _ h => h) (Or.inl ⟨by rfl, (by intro w9 hSw; (try dsimp only at hSw); go_simp)⟩) hHeld ?_
  try simp only [skipL, skipA, List.foldl, Act.put, List.setIfInBounds_toArray, List.set_cons_zero, List.set_cons_succ]
  refine wpAnyH_ready (rs := [3]) (by kernel_rfl) (by simp) ?_
  refine (AllReadyH.cons rfl (fun K hK => ?_) AllReadyH.nil)
  · go_simp
    (go_at_call 95; (with_reducible refine (NA.out _).mono ?_); rintro rv w1 ⟨rfl, hb⟩; have ns : w.heap.size + 1 < w1.heap.size := hb.ltK; have n0 : w1.cell? ⟨w.heap.size, 0, none⟩ = some (.int .i64 e) := hb.cellK; have n1 : w1.cell? ⟨w.heap.size, 1, none⟩ = some (.int .i64 f) := hb.cellK; have n2 : w1.cell? ⟨w.heap.size + 1, 0, none⟩ = some (.int .i64 a) := hb.cellK; have n3 : w1.cell? ⟨w.heap.size + 1, 1, none⟩ = some (.int .i64 b) := hb.cellK; (first | (have nx := hx.trK hb; clear hx) | have nx := hb); clear hb; try clear hs; try clear g0; try clear g1; try clear g2; try clear g3; have hx := nx; clear nx; have hs := ns; clear ns; have g0 := n0; clear n0; have g1 := n1; clear n1; have g2 := n2; clear n2; have g3 := n3; clear n3)
    dsimp only
    refine hK.out _ _ ?_ (fun hHeld => ?_)
    · ((refine ⟨?_, ?_, ?_, ?_, ?_⟩ <;> first | with_reducible assumption | ((repeat first | rw [cell_set_far _ _ _ _ _ _ (by omega)] | rw [cell_alloc_before _ _ _ _ (by omega)] | rw [cell_alloc_drew _ _ _ _ (by omega)] | rw [cell_drew]); with_reducible assumption) | ((rw [cell_setRow_far _ _ _ _ _ (by omega)]); with_reducible assumption) | ((rw [setRow_size]); with_reducible assumption) | (simp; done) | (simp [World.setCell]; first | done | omega) | (simp [go_sem, World.cell?_alloc_past, World.cell?_setCell_far, *]; done)))
    try simp only [skipL, skipA, List.foldl, Act.put, List.setIfInBounds_toArray, List.set_cons_zero, List.set_cons_succ]
    refine take_at (i := 4) (d := some 10) (v := .bool false) rfl rfl (by kernel_rfl) (by kernel_rfl) (by kernel_rfl) (fun _ _ _ h => h) (Or.inl ⟨by rfl, (by intro w9 hSw; (try dsimp only at hSw); go_simp)⟩) hHeld ?_
    try simp only [skipL, skipA, List.foldl, Act.put, List.setIfInBounds_toArray, List.set_cons_zero, List.set_cons_succ]
    refine take_at (i := 5) (d := some 11) (v := .bool false) rfl rfl (by kernel_rfl) (by kernel_rfl) (by kernel_rfl) (fun _ _ _ h => h) (Or.inl ⟨by rfl, (by intro w9 hSw; (try dsimp only at hSw); go_simp)⟩) hHeld ?_
    try simp only [skipL, skipA, List.foldl, Act.put, List.setIfInBounds_toArray, List.set_cons_zero, List.set_cons_succ]
    refine take_at (i := 6) (d := some 12) (v := fmt e f) rfl rfl (by kernel_rfl) (by kernel_rfl) (by kernel_rfl) (fun _ _ _ h => h) (Or.inl ⟨by kernel_rfl, (by intro w9 hSw; (try dsimp only at hSw); go_simp)⟩) hHeld ?_
    try simp only [skipL, skipA, List.foldl, Act.put, List.setIfInBounds_toArray, List.set_cons_zero, List.set_cons_succ]
    refine take_at (i := 7) (d := some 13) (v := .pointer (some ⟨w.heap.size + 1, 1, none⟩)) rfl rfl (by kernel_rfl) (by kernel_rfl) (by kernel_rfl) (fun _ _ _ h => h) (Or.inl ⟨by kernel_rfl, (by intro w9 hSw; (try dsimp only at hSw); go_simp)⟩) hHeld ?_
    try simp only [skipL, skipA, List.foldl, Act.put, List.setIfInBounds_toArray, List.set_cons_zero, List.set_cons_succ]
    refine take_at (i := 8) (d := some 14) (v := .int .i64 b) rfl rfl (by kernel_rfl) (by kernel_rfl) (by kernel_rfl) (fun _ _ _ h => h) (Or.inl ⟨by kernel_rfl, (by intro w9 hSw; (try dsimp only at hSw); go_simp)⟩) hHeld ?_
    try simp only [skipL, skipA, List.foldl, Act.put, List.setIfInBounds_toArray, List.set_cons_zero, List.set_cons_succ]
    refine wpAnyH_ready (rs := [9]) (by kernel_rfl) (by simp) ?_
    refine (AllReadyH.cons rfl (fun K hK => ?_) AllReadyH.nil)
    · go_simp
      (go_at_call 95; (with_reducible refine (NB.out _).mono ?_); rintro rv w1 ⟨rfl, hb⟩; have ns : w.heap.size + 1 < w1.heap.size := hb.ltK; have n0 : w1.cell? ⟨w.heap.size, 0, none⟩ = some (.int .i64 e) := hb.cellK; have n1 : w1.cell? ⟨w.heap.size, 1, none⟩ = some (.int .i64 f) := hb.cellK; have n2 : w1.cell? ⟨w.heap.size + 1, 0, none⟩ = some (.int .i64 a) := hb.cellK; have n3 : w1.cell? ⟨w.heap.size + 1, 1, none⟩ = some (.int .i64 b) := hb.cellK; (first | (have nx := hx.trK hb; clear hx) | have nx := hb); clear hb; try clear hs; try clear g0; try clear g1; try clear g2; try clear g3; have hx := nx; clear nx; have hs := ns; clear ns; have g0 := n0; clear n0; have g1 := n1; clear n1; have g2 := n2; clear n2; have g3 := n3; clear n3)
      dsimp only
      refine hK.out _ _ ?_ (fun hHeld => ?_)
      · ((refine ⟨?_, ?_, ?_, ?_, ?_⟩ <;> first | with_reducible assumption | ((repeat first | rw [cell_set_far _ _ _ _ _ _ (by omega)] | rw [cell_alloc_before _ _ _ _ (by omega)] | rw [cell_alloc_drew _ _ _ _ (by omega)] | rw [cell_drew]); with_reducible assumption) | ((rw [cell_setRow_far _ _ _ _ _ (by omega)]); with_reducible assumption) | ((rw [setRow_size]); with_reducible assumption) | (simp; done) | (simp [World.setCell]; first | done | omega) | (simp [go_sem, World.cell?_alloc_past, World.cell?_setCell_far, *]; done)))
      try simp only [skipL, skipA, List.foldl, Act.put, List.setIfInBounds_toArray, List.set_cons_zero, List.set_cons_succ]
      refine take_at (i := 10) (d := some 16) (v := .bool false) rfl rfl (by kernel_rfl) (by kernel_rfl) (by kernel_rfl) (fun _ _ _ h => h) (Or.inl ⟨by kernel_rfl, (by intro w9 hSw; (try dsimp only at hSw); go_simp)⟩) hHeld ?_
      try simp only [skipL, skipA, List.foldl, Act.put, List.setIfInBounds_toArray, List.set_cons_zero, List.set_cons_succ]
      refine take_at (i := 11) (d := some 17) (v := .bool false) rfl rfl (by kernel_rfl) (by kernel_rfl) (by kernel_rfl) (fun _ _ _ h => h) (Or.inl ⟨by rfl, (by intro w9 hSw; (try dsimp only at hSw); go_simp)⟩) hHeld ?_
      try simp only [skipL, skipA, List.foldl, Act.put, List.setIfInBounds_toArray, List.set_cons_zero, List.set_cons_succ]
      refine take_at (i := 12) (d := some 18) (v := .bool false) rfl rfl (by kernel_rfl) (by kernel_rfl) (by kernel_rfl) (fun _ _ _ h => h) (Or.inl ⟨by rfl, (by intro w9 hSw; (try dsimp only at hSw); go_simp)⟩) hHeld ?_
      try simp only [skipL, skipA, List.foldl, Act.put, List.setIfInBounds_toArray, List.set_cons_zero, List.set_cons_succ]
      refine take_at (i := 13) (d := some 19) (v := fmt e f) rfl rfl (by kernel_rfl) (by kernel_rfl) (by kernel_rfl) (fun _ _ _ h => h) (Or.inl ⟨by kernel_rfl, (by intro w9 hSw; (try dsimp only at hSw); go_simp)⟩) hHeld ?_
      try simp only [skipL, skipA, List.foldl, Act.put, List.setIfInBounds_toArray, List.set_cons_zero, List.set_cons_succ]
      refine take_at (i := 14) (d := some 20) (v := .pointer (some ⟨w.heap.size + 1, 0, none⟩)) rfl rfl (by kernel_rfl) (by kernel_rfl) (by kernel_rfl) (fun _ _ _ h => h) (Or.inl ⟨by kernel_rfl, (by intro w9 hSw; (try dsimp only at hSw); go_simp)⟩) hHeld ?_
      try simp only [skipL, skipA, List.foldl, Act.put, List.setIfInBounds_toArray, List.set_cons_zero, List.set_cons_succ]
      refine take_at (i := 15) (d := some 21) (v := .int .i64 a) rfl rfl (by kernel_rfl) (by kernel_rfl) (by kernel_rfl) (fun _ _ _ h => h) (Or.inl ⟨by kernel_rfl, (by intro w9 hSw; (try dsimp only at hSw); go_simp)⟩) hHeld ?_
      try simp only [skipL, skipA, List.foldl, Act.put, List.setIfInBounds_toArray, List.set_cons_zero, List.set_cons_succ]
      refine take_at (i := 17) (d := some 23) (v := .pointer (some ⟨w.heap.size + 1, 0, none⟩)) rfl rfl (by kernel_rfl) (by kernel_rfl) (by kernel_rfl) (fun _ _ _ h => h) (Or.inl ⟨by kernel_rfl, (by intro w9 hSw; (try dsimp only at hSw); go_simp)⟩) hHeld ?_
      try simp only [skipL, skipA, List.foldl, Act.put, List.setIfInBounds_toArray, List.set_cons_zero, List.set_cons_succ]
      refine take_at (i := 18) (d := some 24) (v := .int .i64 a) rfl rfl (by kernel_rfl) (by kernel_rfl) (by kernel_rfl) (fun _ _ _ h => h) (Or.inl ⟨by kernel_rfl, (by intro w9 hSw; (try dsimp only at hSw); go_simp)⟩) hHeld ?_
      try simp only [skipL, skipA, List.foldl, Act.put, List.setIfInBounds_toArray, List.set_cons_zero, List.set_cons_succ]
      refine wpAnyH_ready (rs := [16]) (by kernel_rfl) (by simp) ?_
      refine (AllReadyH.cons rfl (fun K hK => ?_) AllReadyH.nil)
      · go_simp
        (go_at_call 96; (with_reducible refine (ZA.out _).mono ?_); rintro rv w1 ⟨rfl, hb⟩; have ns : w.heap.size + 1 < w1.heap.size := hb.ltK; have n0 : w1.cell? ⟨w.heap.size, 0, none⟩ = some (.int .i64 e) := hb.cellK; have n1 : w1.cell? ⟨w.heap.size, 1, none⟩ = some (.int .i64 f) := hb.cellK; have n2 : w1.cell? ⟨w.heap.size + 1, 0, none⟩ = some (.int .i64 a) := hb.cellK; have n3 : w1.cell? ⟨w.heap.size + 1, 1, none⟩ = some (.int .i64 b) := hb.cellK; (first | (have nx := hx.trK hb; clear hx) | have nx := hb); clear hb; try clear hs; try clear g0; try clear g1; try clear g2; try clear g3; have hx := nx; clear nx; have hs := ns; clear ns; have g0 := n0; clear n0; have g1 := n1; clear n1; have g2 := n2; clear n2; have g3 := n3; clear n3)
        dsimp only
        refine hK.out _ _ ?_ (fun hHeld => ?_)
        · ((refine ⟨?_, ?_, ?_, ?_, ?_⟩ <;> first | with_reducible assumption | ((repeat first | rw [cell_set_far _ _ _ _ _ _ (by omega)] | rw [cell_alloc_before _ _ _ _ (by omega)] | rw [cell_alloc_drew _ _ _ _ (by omega)] | rw [cell_drew]); with_reducible assumption) | ((rw [cell_setRow_far _ _ _ _ _ (by omega)]); with_reducible assumption) | ((rw [setRow_size]); with_reducible assumption) | (simp; done) | (simp [World.setCell]; first | done | omega) | (simp [go_sem, World.cell?_alloc_past, World.cell?_setCell_far, *]; done)))
        try simp only [skipL, skipA, List.foldl, Act.put, List.setIfInBounds_toArray, List.set_cons_zero, List.set_cons_succ]
        refine take_at (i := 19) (d := some 25) (v := .bool false) rfl rfl (by kernel_rfl) (by kernel_rfl) (by kernel_rfl) (fun _ _ _ h => h) (Or.inl ⟨by kernel_rfl, (by intro w9 hSw; (try dsimp only at hSw); go_simp)⟩) hHeld ?_
        try simp only [skipL, skipA, List.foldl, Act.put, List.setIfInBounds_toArray, List.set_cons_zero, List.set_cons_succ]
        refine take_at (i := 20) (d := some 26) (v := .bool false) rfl rfl (by kernel_rfl) (by kernel_rfl) (by kernel_rfl) (fun _ _ _ h => h) (Or.inl ⟨by rfl, (by intro w9 hSw; (try dsimp only at hSw); go_simp)⟩) hHeld ?_
        try simp only [skipL, skipA, List.foldl, Act.put, List.setIfInBounds_toArray, List.set_cons_zero, List.set_cons_succ]
        refine take_at (i := 21) (d := some 27) (v := .bool false) rfl rfl (by kernel_rfl) (by kernel_rfl) (by kernel_rfl) (fun _ _ _ h => h) (Or.inl ⟨by rfl, (by intro w9 hSw; (try dsimp only at hSw); go_simp)⟩) hHeld ?_
        try simp only [skipL, skipA, List.foldl, Act.put, List.setIfInBounds_toArray, List.set_cons_zero, List.set_cons_succ]
        refine take_at (i := 22) (d := some 28) (v := fmt e f) rfl rfl (by kernel_rfl) (by kernel_rfl) (by kernel_rfl) (fun _ _ _ h => h) (Or.inl ⟨by kernel_rfl, (by intro w9 hSw; (try dsimp only at hSw); go_simp)⟩) hHeld ?_
        try simp only [skipL, skipA, List.foldl, Act.put, List.setIfInBounds_toArray, List.set_cons_zero, List.set_cons_succ]
        refine take_at (i := 23) (d := some 29) (v := .pointer (some ⟨w.heap.size + 1, 1, none⟩)) rfl rfl (by kernel_rfl) (by kernel_rfl) (by kernel_rfl) (fun _ _ _ h => h) (Or.inl ⟨by kernel_rfl, (by intro w9 hSw; (try dsimp only at hSw); go_simp)⟩) hHeld ?_
        try simp only [skipL, skipA, List.foldl, Act.put, List.setIfInBounds_toArray, List.set_cons_zero, List.set_cons_succ]
        refine take_at (i := 24) (d := some 30) (v := .int .i64 b) rfl rfl (by kernel_rfl) (by kernel_rfl) (by kernel_rfl) (fun _ _ _ h => h) (Or.inl ⟨by kernel_rfl, (by intro w9 hSw; (try dsimp only at hSw); go_simp)⟩) hHeld ?_
        try simp only [skipL, skipA, List.foldl, Act.put, List.setIfInBounds_toArray, List.set_cons_zero, List.set_cons_succ]
        refine take_at (i := 26) (d := some 32) (v := .pointer (some ⟨w.heap.size + 1, 1, none⟩)) rfl rfl (by kernel_rfl) (by kernel_rfl) (by kernel_rfl) (fun _ _ _ h => h) (Or.inl ⟨by kernel_rfl, (by intro w9 hSw; (try dsimp only at hSw); go_simp)⟩) hHeld ?_
        try simp only [skipL, skipA, List.foldl, Act.put, List.setIfInBounds_toArray, List.set_cons_zero, List.set_cons_succ]
        refine take_at (i := 27) (d := some 33) (v := .int .i64 b) rfl rfl (by kernel_rfl) (by kernel_rfl) (by kernel_rfl) (fun _ _ _ h => h) (Or.inl ⟨by kernel_rfl, (by intro w9 hSw; (try dsimp only at hSw); go_simp)⟩) hHeld ?_
        try simp only [skipL, skipA, List.foldl, Act.put, List.setIfInBounds_toArray, List.set_cons_zero, List.set_cons_succ]
        refine wpAnyH_ready (rs := [25]) (by kernel_rfl) (by simp) ?_
        refine (AllReadyH.cons rfl (fun K hK => ?_) AllReadyH.nil)
        · go_simp
          (go_at_call 96; (with_reducible refine (ZB.out _).mono ?_); rintro rv w1 ⟨rfl, hb⟩; have ns : w.heap.size + 1 < w1.heap.size := hb.ltK; have n0 : w1.cell? ⟨w.heap.size, 0, none⟩ = some (.int .i64 e) := hb.cellK; have n1 : w1.cell? ⟨w.heap.size, 1, none⟩ = some (.int .i64 f) := hb.cellK; have n2 : w1.cell? ⟨w.heap.size + 1, 0, none⟩ = some (.int .i64 a) := hb.cellK; have n3 : w1.cell? ⟨w.heap.size + 1, 1, none⟩ = some (.int .i64 b) := hb.cellK; (first | (have nx := hx.trK hb; clear hx) | have nx := hb); clear hb; try clear hs; try clear g0; try clear g1; try clear g2; try clear g3; have hx := nx; clear nx; have hs := ns; clear ns; have g0 := n0; clear n0; have g1 := n1; clear n1; have g2 := n2; clear n2; have g3 := n3; clear n3)
          dsimp only
          refine hK.out _ _ ?_ (fun hHeld => ?_)
          · ((refine ⟨?_, ?_, ?_, ?_, ?_⟩ <;> first | with_reducible assumption | ((repeat first | rw [cell_set_far _ _ _ _ _ _ (by omega)] | rw [cell_alloc_before _ _ _ _ (by omega)] | rw [cell_alloc_drew _ _ _ _ (by omega)] | rw [cell_drew]); with_reducible assumption) | ((rw [cell_setRow_far _ _ _ _ _ (by omega)]); with_reducible assumption) | ((rw [setRow_size]); with_reducible assumption) | (simp; done) | (simp [World.setCell]; first | done | omega) | (simp [go_sem, World.cell?_alloc_past, World.cell?_setCell_far, *]; done)))
          try simp only [skipL, skipA, List.foldl, Act.put, List.setIfInBounds_toArray, List.set_cons_zero, List.set_cons_succ]
          refine take_at (i := 28) (d := some 34) (v := .bool false) rfl rfl (by kernel_rfl) (by kernel_rfl) (by kernel_rfl) (fun _ _ _ h => h) (Or.inl ⟨by kernel_rfl, (by intro w9 hSw; (try dsimp only at hSw); go_simp)⟩) hHeld ?_
          try simp only [skipL, skipA, List.foldl, Act.put, List.setIfInBounds_toArray, List.set_cons_zero, List.set_cons_succ]
          refine take_at (i := 29) (d := some 35) (v := .bool false) rfl rfl (by kernel_rfl) (by kernel_rfl) (by kernel_rfl) (fun _ _ _ h => h) (Or.inl ⟨by rfl, (by intro w9 hSw; (try dsimp only at hSw); go_simp)⟩) hHeld ?_
          try simp only [skipL, skipA, List.foldl, Act.put, List.setIfInBounds_toArray, List.set_cons_zero, List.set_cons_succ]
          refine wpAnyH_done (by kernel_rfl) ?_ _
          go_wp2_with fail
          go_wp2_with (go_at_call 97; refine (IF.out _).mono ?_; rintro rv w1 ⟨rfl, hb⟩; have ns : w.heap.size + 1 < w1.heap.size := hb.ltK; have n0 : w1.cell? ⟨w.heap.size, 0, none⟩ = some (.int .i64 e) := hb.cellK; have n1 : w1.cell? ⟨w.heap.size, 1, none⟩ = some (.int .i64 f) := hb.cellK; have n2 : w1.cell? ⟨w.heap.size + 1, 0, none⟩ = some (.int .i64 a) := hb.cellK; have n3 : w1.cell? ⟨w.heap.size + 1, 1, none⟩ = some (.int .i64 b) := hb.cellK; (first | (have nx := hx.trK hb; clear hx) | have nx := hb); clear hb; try clear hs; try clear g0; try clear g1; try clear g2; try clear g3; have hx := nx; clear nx; have hs := ns; clear ns; have g0 := n0; clear n0; have g1 := n1; clear n1; have g2 := n2; clear n2; have g3 := n3; clear n3)
          go_wp2_with fail
          refine wp_region_held_drew (S := (fun w' => w'.cell? ⟨w.heap.size, 0, none⟩ = some (.int .i64 e) ∧ w'.cell? ⟨w.heap.size, 1, none⟩ = some (.int .i64 f) ∧ w'.cell? ⟨w.heap.size + 1, 0, none⟩ = some (.int .i64 a) ∧ w'.cell? ⟨w.heap.size + 1, 1, none⟩ = some (.int .i64 b) ∧ w.heap.size + 1 < w'.heap.size)) (by kernel_rfl) ?_ (fun hHeld => ?_)
          · ((refine ⟨?_, ?_, ?_, ?_, ?_⟩ <;> first | with_reducible assumption | ((repeat first | rw [cell_set_far _ _ _ _ _ _ (by omega)] | rw [cell_alloc_before _ _ _ _ (by omega)] | rw [cell_alloc_drew _ _ _ _ (by omega)] | rw [cell_drew]); with_reducible assumption) | ((rw [cell_setRow_far _ _ _ _ _ (by omega)]); with_reducible assumption) | ((rw [setRow_size]); with_reducible assumption) | (simp; done) | (simp [World.setCell]; first | done | omega) | (simp [go_sem, World.cell?_alloc_past, World.cell?_setCell_far, *]; done)))
          refine take_at (i := 0) (d := some 38) (v := fmt e f) rfl rfl (by kernel_rfl) (by kernel_rfl) (by kernel_rfl) (fun _ _ _ h => h) (Or.inl ⟨by rfl, (by intro w9 hSw; (try dsimp only at hSw); go_simp)⟩) hHeld ?_
          try simp only [skipL, skipA, List.foldl, Act.put, List.setIfInBounds_toArray, List.set_cons_zero, List.set_cons_succ]
          refine take_at (i := 1) (d := some 39) (v := .pointer (some ⟨w.heap.size + 1, 0, none⟩)) rfl rfl (by kernel_rfl) (by kernel_rfl) (by kernel_rfl) (fun _ _ _ h => h) (Or.inl ⟨by rfl, (by intro w9 hSw; (try dsimp only at hSw); go_simp)⟩) hHeld ?_
          try simp only [skipL, skipA, List.foldl, Act.put, List.setIfInBounds_toArray, List.set_cons_zero, List.set_cons_succ]
          refine take_at (i := 2) (d := some 40) (v := .int .i64 a) rfl rfl (by kernel_rfl) (by kernel_rfl) (by kernel_rfl) (fun _ _ _ h => h) (Or.inl ⟨by rfl, (by intro w9 hSw; (try dsimp only at hSw); go_simp)⟩) hHeld ?_
          try simp only [skipL, skipA, List.foldl, Act.put, List.setIfInBounds_toArray, List.set_cons_zero, List.set_cons_succ]
          refine take_at (i := 4) (d := some 42) (v := fmt e f) rfl rfl (by kernel_rfl) (by kernel_rfl) (by kernel_rfl) (fun _ _ _ h => h) (Or.inl ⟨by rfl, (by intro w9 hSw; (try dsimp only at hSw); go_simp)⟩) hHeld ?_
          try simp only [skipL, skipA, List.foldl, Act.put, List.setIfInBounds_toArray, List.set_cons_zero, List.set_cons_succ]
          refine take_at (i := 5) (d := some 43) (v := .pointer (some ⟨w.heap.size + 1, 1, none⟩)) rfl rfl (by kernel_rfl) (by kernel_rfl) (by kernel_rfl) (fun _ _ _ h => h) (Or.inl ⟨by rfl, (by intro w9 hSw; (try dsimp only at hSw); go_simp)⟩) hHeld ?_
          try simp only [skipL, skipA, List.foldl, Act.put, List.setIfInBounds_toArray, List.set_cons_zero, List.set_cons_succ]
          refine take_at (i := 6) (d := some 44) (v := .int .i64 b) rfl rfl (by kernel_rfl) (by kernel_rfl) (by kernel_rfl) (fun _ _ _ h => h) (Or.inl ⟨by rfl, (by intro w9 hSw; (try dsimp only at hSw); go_simp)⟩) hHeld ?_
          try simp only [skipL, skipA, List.foldl, Act.put, List.setIfInBounds_toArray, List.set_cons_zero, List.set_cons_succ]
          refine wpAnyH_ready (rs := [3]) (by kernel_rfl) (by simp) ?_
          refine (AllReadyH.cons rfl (fun K hK => ?_) AllReadyH.nil)
          · go_simp
            (go_at_call 98; (with_reducible refine (KA.out _).mono ?_); rintro rv w1 ⟨rfl, hb⟩; have ns : w.heap.size + 1 < w1.heap.size := hb.ltK; have n0 : w1.cell? ⟨w.heap.size, 0, none⟩ = some (.int .i64 e) := hb.cellK; have n1 : w1.cell? ⟨w.heap.size, 1, none⟩ = some (.int .i64 f) := hb.cellK; have n2 : w1.cell? ⟨w.heap.size + 1, 0, none⟩ = some (.int .i64 a) := hb.cellK; have n3 : w1.cell? ⟨w.heap.size + 1, 1, none⟩ = some (.int .i64 b) := hb.cellK; (first | (have nx := hx.trK hb; clear hx) | have nx := hb); clear hb; try clear hs; try clear g0; try clear g1; try clear g2; try clear g3; have hx := nx; clear nx; have hs := ns; clear ns; have g0 := n0; clear n0; have g1 := n1; clear n1; have g2 := n2; clear n2; have g3 := n3; clear n3)
            dsimp only
            refine hK.out _ _ ?_ (fun hHeld => ?_)
            · ((refine ⟨?_, ?_, ?_, ?_, ?_⟩ <;> first | with_reducible assumption | ((repeat first | rw [cell_set_far _ _ _ _ _ _ (by omega)] | rw [cell_alloc_before _ _ _ _ (by omega)] | rw [cell_alloc_drew _ _ _ _ (by omega)] | rw [cell_drew]); with_reducible assumption) | ((rw [cell_setRow_far _ _ _ _ _ (by omega)]); with_reducible assumption) | ((rw [setRow_size]); with_reducible assumption) | (simp; done) | (simp [World.setCell]; first | done | omega) | (simp [go_sem, World.cell?_alloc_past, World.cell?_setCell_far, *]; done)))
            try simp only [skipL, skipA, List.foldl, Act.put, List.setIfInBounds_toArray, List.set_cons_zero, List.set_cons_succ]
            refine wpAnyH_ready (rs := [7]) (by kernel_rfl) (by simp) ?_
            refine (AllReadyH.cons rfl (fun K hK => ?_) AllReadyH.nil)
            · go_simp
              (go_at_call 98; (with_reducible refine (KB.out _).mono ?_); rintro rv w1 ⟨rfl, hb⟩; have ns : w.heap.size + 1 < w1.heap.size := hb.ltK; have n0 : w1.cell? ⟨w.heap.size, 0, none⟩ = some (.int .i64 e) := hb.cellK; have n1 : w1.cell? ⟨w.heap.size, 1, none⟩ = some (.int .i64 f) := hb.cellK; have n2 : w1.cell? ⟨w.heap.size + 1, 0, none⟩ = some (.int .i64 a) := hb.cellK; have n3 : w1.cell? ⟨w.heap.size + 1, 1, none⟩ = some (.int .i64 b) := hb.cellK; (first | (have nx := hx.trK hb; clear hx) | have nx := hb); clear hb; try clear hs; try clear g0; try clear g1; try clear g2; try clear g3; have hx := nx; clear nx; have hs := ns; clear ns; have g0 := n0; clear n0; have g1 := n1; clear n1; have g2 := n2; clear n2; have g3 := n3; clear n3)
              dsimp only
              refine hK.out _ _ ?_ (fun hHeld => ?_)
              · ((refine ⟨?_, ?_, ?_, ?_, ?_⟩ <;> first | with_reducible assumption | ((repeat first | rw [cell_set_far _ _ _ _ _ _ (by omega)] | rw [cell_alloc_before _ _ _ _ (by omega)] | rw [cell_alloc_drew _ _ _ _ (by omega)] | rw [cell_drew]); with_reducible assumption) | ((rw [cell_setRow_far _ _ _ _ _ (by omega)]); with_reducible assumption) | ((rw [setRow_size]); with_reducible assumption) | (simp; done) | (simp [World.setCell]; first | done | omega) | (simp [go_sem, World.cell?_alloc_past, World.cell?_setCell_far, *]; done)))
              try simp only [skipL, skipA, List.foldl, Act.put, List.setIfInBounds_toArray, List.set_cons_zero, List.set_cons_succ]
              refine take_at (i := 8) (d := some 46) (v := .bool false) rfl rfl (by kernel_rfl) (by kernel_rfl) (by kernel_rfl) (fun _ _ _ h => h) (Or.inl ⟨by rfl, (by intro w9 hSw; (try dsimp only at hSw); go_simp)⟩) hHeld ?_
              try simp only [skipL, skipA, List.foldl, Act.put, List.setIfInBounds_toArray, List.set_cons_zero, List.set_cons_succ]
              refine take_at (i := 9) (d := some 47) (v := .bool false) rfl rfl (by kernel_rfl) (by kernel_rfl) (by kernel_rfl) (fun _ _ _ h => h) (Or.inl ⟨by rfl, (by intro w9 hSw; (try dsimp only at hSw); go_simp)⟩) hHeld ?_
              try simp only [skipL, skipA, List.foldl, Act.put, List.setIfInBounds_toArray, List.set_cons_zero, List.set_cons_succ]
              refine wpAnyH_skips (is := [(10, 48), (11, 49), (12, 50), (13, 51)]) (by kernel_rfl) (fun _ _ _ _ h => h) hHeld 10 _ _ (by kernel_rfl) ?_
              try simp only [skipL, skipA, List.foldl, Act.put, List.setIfInBounds_toArray, List.set_cons_zero, List.set_cons_succ]
              refine take_at (i := 14) (d := some 52) (v := .bool false) rfl rfl (by kernel_rfl) (by kernel_rfl) (by kernel_rfl) (fun _ _ _ h => h) (Or.inl ⟨by rfl, (by intro w9 hSw; (try dsimp only at hSw); go_simp)⟩) hHeld ?_
              try simp only [skipL, skipA, List.foldl, Act.put, List.setIfInBounds_toArray, List.set_cons_zero, List.set_cons_succ]
              refine take_at (i := 15) (d := some 53) (v := .bool false) rfl rfl (by kernel_rfl) (by kernel_rfl) (by kernel_rfl) (fun _ _ _ h => h) (Or.inl ⟨by rfl, (by intro w9 hSw; (try dsimp only at hSw); go_simp)⟩) hHeld ?_
              try simp only [skipL, skipA, List.foldl, Act.put, List.setIfInBounds_toArray, List.set_cons_zero, List.set_cons_succ]
              refine wpAnyH_skips (is := [(16, 54), (17, 55), (18, 56), (19, 57), (20, 58), (21, 59)]) (by kernel_rfl) (fun _ _ _ _ h => h) hHeld 2 _ _ (by kernel_rfl) ?_
              try simp only [skipL, skipA, List.foldl, Act.put, List.setIfInBounds_toArray, List.set_cons_zero, List.set_cons_succ]
              refine take_at (i := 22) (d := some 60) (v := .bool false) rfl rfl (by kernel_rfl) (by kernel_rfl) (by kernel_rfl) (fun _ _ _ h => h) (Or.inl ⟨by rfl, (by intro w9 hSw; (try dsimp only at hSw); go_simp)⟩) hHeld ?_
              try simp only [skipL, skipA, List.foldl, Act.put, List.setIfInBounds_toArray, List.set_cons_zero, List.set_cons_succ]
              refine take_at (i := 23) (d := some 4) (v := .bool false) rfl rfl (by kernel_rfl) (by kernel_rfl) (by kernel_rfl) (fun _ _ _ h => h) (Or.inl ⟨by rfl, (by intro w9 hSw; (try dsimp only at hSw); go_simp)⟩) hHeld ?_
              try simp only [skipL, skipA, List.foldl, Act.put, List.setIfInBounds_toArray, List.set_cons_zero, List.set_cons_succ]
              refine wpAnyH_done (by kernel_rfl) ?_ _
              go_wp2_with fail
              go_ret
              exact ⟨rfl, Ext.auK⟩

set_option maxHeartbeats 12800000 in
theorem ivGood_f (e f a b : Int) (ha : enB e f a = true) (hb : enB e f b = true) (hle : ikV e f a ≤ ikV e f b) (hne : a = inV e f) (w : World) : Calls Tryz.prog 50 #[fmt e f, two a b] w fun rv w' => rv = .returned (.bool false) ∧ Ext w w' := by
  have NA := Lib.hid (fun w => fmNumber_any e f a w)
  have NB := Lib.hid (fun w => fmNumber_any e f b w)
  obtain ⟨hg, na, pa, _⟩ := en_parts ha
  obtain ⟨_, nb, pb, _⟩ := en_parts hb
  have ZA := Lib.hid (fun w => ivZero_any e f a pa w)
  have ZB := Lib.hid (fun w => ivZero_any e f b pb w)
  rw [iz_end ha] at ZA
  rw [iz_end hb] at ZB
  rw [na] at NA
  rw [nb] at NB
  have KA : RowKit.Hid (∀ w, Calls Tryz.prog 98 #[fmt e f, .int .i64 a] w fun rv w' => rv = .returned (.int .i64 (ikV e f a)) ∧ Ext w w') := Lib.hid (fun w => fmKey_any e f a pa w)
  have KB : RowKit.Hid (∀ w, Calls Tryz.prog 98 #[fmt e f, .int .i64 b] w fun rv w' => rv = .returned (.int .i64 (ikV e f b)) ∧ Ext w w') := Lib.hid (fun w => fmKey_any e f b pb w)
  obtain ⟨i0, i1, i2⟩ := in_bd hg
  have pI : patB e f (inV e f) = true := pat_iff.2 ⟨hg, by omega, by omega⟩
  have e1 : inV e f / pw (e + f) = 0 := Int.ediv_eq_zero_of_lt (by omega) i1
  have e2 : inV e f % pw (e + f) = inV e f := Int.emod_eq_of_lt (by omega) i1
  have NG := fun w => fmNegate_any e f (inV e f) pI w
  have e3 : (1 - inV e f / pw (e + f)) * pw (e + f) + inV e f % pw (e + f) = pw (e + f) + inV e f := by rw [e1, e2]; omega
  rw [e3] at NG
  have NG := Lib.hid NG
  have IF : RowKit.Hid (∀ w, Calls Tryz.prog 97 #[fmt e f] w fun rv w' => rv = .returned (.int .i64 (inV e f)) ∧ Ext w w') := Lib.hid (fun w => fmInfinite_any e f hg w)
  clear ha hb na nb pa pb hg i0 i1 i2 pI e1 e2 e3
  generalize ikV e f a = ka at *
  generalize ikV e f b = kb at *
  generalize pw (e + f) + inV e f = M at *
  rw [← hne] at IF NG
  clear hne
  go_enter Tryz.func50, Tryz.ntmps50
  go_wp2_with fail
  refine wp_region_held_drew (S := (fun w' => w'.cell? ⟨w.heap.size, 0, none⟩ = some (.int .i64 e) ∧ w'.cell? ⟨w.heap.size, 1, none⟩ = some (.int .i64 f) ∧ w'.cell? ⟨w.heap.size + 1, 0, none⟩ = some (.int .i64 a) ∧ w'.cell? ⟨w.heap.size + 1, 1, none⟩ = some (.int .i64 b) ∧ w.heap.size + 1 < w'.heap.size)) (by kernel_rfl) ?_ (fun hHeld => ?_)
  · ((refine ⟨?_, ?_, ?_, ?_, ?_⟩ <;> first | with_reducible assumption | ((repeat first | rw [cell_set_far _ _ _ _ _ _ (by omega)] | rw [cell_alloc_before _ _ _ _ (by omega)] | rw [cell_alloc_drew _ _ _ _ (by omega)] | rw [cell_drew]); with_reducible assumption) | ((rw [cell_setRow_far _ _ _ _ _ (by omega)]); with_reducible assumption) | ((rw [setRow_size]); with_reducible assumption) | (simp; done) | (simp [World.setCell]; first | done | omega) | (simp [go_sem, World.cell?_alloc_past, World.cell?_setCell_far, *]; done)))
  refine take_at (i := 0) (d := some 6) (v := fmt e f) rfl rfl (by kernel_rfl) (by kernel_rfl) (by kernel_rfl) (fun _ _ _ h => h) (Or.inl ⟨by rfl, (by intro w9 hSw; (try dsimp only at hSw); go_simp)⟩) hHeld ?_
  try simp only [skipL, skipA, List.foldl, Act.put, List.setIfInBounds_toArray, List.set_cons_zero, List.set_cons_succ]
  refine take_at (i := 1) (d := some 7) (v := .pointer (some ⟨w.heap.size + 1, 0, none⟩)) rfl rfl (by kernel_rfl) (by kernel_rfl) (by kernel_rfl) (fun _ _ _ h => h) (Or.inl ⟨by rfl, (by intro w9 hSw; (try dsimp only at hSw); go_simp)⟩) hHeld ?_
  try simp only [skipL, skipA, List.foldl, Act.put, List.setIfInBounds_toArray, List.set_cons_zero, List.set_cons_succ]
  refine take_at (i := 2) (d := some 8) (v := .int .i64 a) rfl rfl (by kernel_rfl) (by kernel_rfl) (by kernel_rfl) (fun _ _ _ h => h) (Or.inl ⟨by rfl, (by intro w9 hSw; (try dsimp only at hSw); go_simp)⟩) hHeld ?_
  try simp only [skipL, skipA, List.foldl, Act.put, List.setIfInBounds_toArray, List.set_cons_zero, List.set_cons_succ]
  refine wpAnyH_ready (rs := [3]) (by kernel_rfl) (by simp) ?_
  refine (AllReadyH.cons rfl (fun K hK => ?_) AllReadyH.nil)
  · go_simp
    (go_at_call 95; (with_reducible refine (NA.out _).mono ?_); rintro rv w1 ⟨rfl, hb⟩; have ns : w.heap.size + 1 < w1.heap.size := hb.ltK; have n0 : w1.cell? ⟨w.heap.size, 0, none⟩ = some (.int .i64 e) := hb.cellK; have n1 : w1.cell? ⟨w.heap.size, 1, none⟩ = some (.int .i64 f) := hb.cellK; have n2 : w1.cell? ⟨w.heap.size + 1, 0, none⟩ = some (.int .i64 a) := hb.cellK; have n3 : w1.cell? ⟨w.heap.size + 1, 1, none⟩ = some (.int .i64 b) := hb.cellK; (first | (have nx := hx.trK hb; clear hx) | have nx := hb); clear hb; try clear hs; try clear g0; try clear g1; try clear g2; try clear g3; have hx := nx; clear nx; have hs := ns; clear ns; have g0 := n0; clear n0; have g1 := n1; clear n1; have g2 := n2; clear n2; have g3 := n3; clear n3)
    dsimp only
    refine hK.out _ _ ?_ (fun hHeld => ?_)
    · ((refine ⟨?_, ?_, ?_, ?_, ?_⟩ <;> first | with_reducible assumption | ((repeat first | rw [cell_set_far _ _ _ _ _ _ (by omega)] | rw [cell_alloc_before _ _ _ _ (by omega)] | rw [cell_alloc_drew _ _ _ _ (by omega)] | rw [cell_drew]); with_reducible assumption) | ((rw [cell_setRow_far _ _ _ _ _ (by omega)]); with_reducible assumption) | ((rw [setRow_size]); with_reducible assumption) | (simp; done) | (simp [World.setCell]; first | done | omega) | (simp [go_sem, World.cell?_alloc_past, World.cell?_setCell_far, *]; done)))
    try simp only [skipL, skipA, List.foldl, Act.put, List.setIfInBounds_toArray, List.set_cons_zero, List.set_cons_succ]
    refine take_at (i := 4) (d := some 10) (v := .bool false) rfl rfl (by kernel_rfl) (by kernel_rfl) (by kernel_rfl) (fun _ _ _ h => h) (Or.inl ⟨by rfl, (by intro w9 hSw; (try dsimp only at hSw); go_simp)⟩) hHeld ?_
    try simp only [skipL, skipA, List.foldl, Act.put, List.setIfInBounds_toArray, List.set_cons_zero, List.set_cons_succ]
    refine take_at (i := 5) (d := some 11) (v := .bool false) rfl rfl (by kernel_rfl) (by kernel_rfl) (by kernel_rfl) (fun _ _ _ h => h) (Or.inl ⟨by rfl, (by intro w9 hSw; (try dsimp only at hSw); go_simp)⟩) hHeld ?_
    try simp only [skipL, skipA, List.foldl, Act.put, List.setIfInBounds_toArray, List.set_cons_zero, List.set_cons_succ]
    refine take_at (i := 6) (d := some 12) (v := fmt e f) rfl rfl (by kernel_rfl) (by kernel_rfl) (by kernel_rfl) (fun _ _ _ h => h) (Or.inl ⟨by kernel_rfl, (by intro w9 hSw; (try dsimp only at hSw); go_simp)⟩) hHeld ?_
    try simp only [skipL, skipA, List.foldl, Act.put, List.setIfInBounds_toArray, List.set_cons_zero, List.set_cons_succ]
    refine take_at (i := 7) (d := some 13) (v := .pointer (some ⟨w.heap.size + 1, 1, none⟩)) rfl rfl (by kernel_rfl) (by kernel_rfl) (by kernel_rfl) (fun _ _ _ h => h) (Or.inl ⟨by kernel_rfl, (by intro w9 hSw; (try dsimp only at hSw); go_simp)⟩) hHeld ?_
    try simp only [skipL, skipA, List.foldl, Act.put, List.setIfInBounds_toArray, List.set_cons_zero, List.set_cons_succ]
    refine take_at (i := 8) (d := some 14) (v := .int .i64 b) rfl rfl (by kernel_rfl) (by kernel_rfl) (by kernel_rfl) (fun _ _ _ h => h) (Or.inl ⟨by kernel_rfl, (by intro w9 hSw; (try dsimp only at hSw); go_simp)⟩) hHeld ?_
    try simp only [skipL, skipA, List.foldl, Act.put, List.setIfInBounds_toArray, List.set_cons_zero, List.set_cons_succ]
    refine wpAnyH_ready (rs := [9]) (by kernel_rfl) (by simp) ?_
    refine (AllReadyH.cons rfl (fun K hK => ?_) AllReadyH.nil)
    · go_simp
      (go_at_call 95; (with_reducible refine (NB.out _).mono ?_); rintro rv w1 ⟨rfl, hb⟩; have ns : w.heap.size + 1 < w1.heap.size := hb.ltK; have n0 : w1.cell? ⟨w.heap.size, 0, none⟩ = some (.int .i64 e) := hb.cellK; have n1 : w1.cell? ⟨w.heap.size, 1, none⟩ = some (.int .i64 f) := hb.cellK; have n2 : w1.cell? ⟨w.heap.size + 1, 0, none⟩ = some (.int .i64 a) := hb.cellK; have n3 : w1.cell? ⟨w.heap.size + 1, 1, none⟩ = some (.int .i64 b) := hb.cellK; (first | (have nx := hx.trK hb; clear hx) | have nx := hb); clear hb; try clear hs; try clear g0; try clear g1; try clear g2; try clear g3; have hx := nx; clear nx; have hs := ns; clear ns; have g0 := n0; clear n0; have g1 := n1; clear n1; have g2 := n2; clear n2; have g3 := n3; clear n3)
      dsimp only
      refine hK.out _ _ ?_ (fun hHeld => ?_)
      · ((refine ⟨?_, ?_, ?_, ?_, ?_⟩ <;> first | with_reducible assumption | ((repeat first | rw [cell_set_far _ _ _ _ _ _ (by omega)] | rw [cell_alloc_before _ _ _ _ (by omega)] | rw [cell_alloc_drew _ _ _ _ (by omega)] | rw [cell_drew]); with_reducible assumption) | ((rw [cell_setRow_far _ _ _ _ _ (by omega)]); with_reducible assumption) | ((rw [setRow_size]); with_reducible assumption) | (simp; done) | (simp [World.setCell]; first | done | omega) | (simp [go_sem, World.cell?_alloc_past, World.cell?_setCell_far, *]; done)))
      try simp only [skipL, skipA, List.foldl, Act.put, List.setIfInBounds_toArray, List.set_cons_zero, List.set_cons_succ]
      refine take_at (i := 10) (d := some 16) (v := .bool false) rfl rfl (by kernel_rfl) (by kernel_rfl) (by kernel_rfl) (fun _ _ _ h => h) (Or.inl ⟨by kernel_rfl, (by intro w9 hSw; (try dsimp only at hSw); go_simp)⟩) hHeld ?_
      try simp only [skipL, skipA, List.foldl, Act.put, List.setIfInBounds_toArray, List.set_cons_zero, List.set_cons_succ]
      refine take_at (i := 11) (d := some 17) (v := .bool false) rfl rfl (by kernel_rfl) (by kernel_rfl) (by kernel_rfl) (fun _ _ _ h => h) (Or.inl ⟨by rfl, (by intro w9 hSw; (try dsimp only at hSw); go_simp)⟩) hHeld ?_
      try simp only [skipL, skipA, List.foldl, Act.put, List.setIfInBounds_toArray, List.set_cons_zero, List.set_cons_succ]
      refine take_at (i := 12) (d := some 18) (v := .bool false) rfl rfl (by kernel_rfl) (by kernel_rfl) (by kernel_rfl) (fun _ _ _ h => h) (Or.inl ⟨by rfl, (by intro w9 hSw; (try dsimp only at hSw); go_simp)⟩) hHeld ?_
      try simp only [skipL, skipA, List.foldl, Act.put, List.setIfInBounds_toArray, List.set_cons_zero, List.set_cons_succ]
      refine take_at (i := 13) (d := some 19) (v := fmt e f) rfl rfl (by kernel_rfl) (by kernel_rfl) (by kernel_rfl) (fun _ _ _ h => h) (Or.inl ⟨by kernel_rfl, (by intro w9 hSw; (try dsimp only at hSw); go_simp)⟩) hHeld ?_
      try simp only [skipL, skipA, List.foldl, Act.put, List.setIfInBounds_toArray, List.set_cons_zero, List.set_cons_succ]
      refine take_at (i := 14) (d := some 20) (v := .pointer (some ⟨w.heap.size + 1, 0, none⟩)) rfl rfl (by kernel_rfl) (by kernel_rfl) (by kernel_rfl) (fun _ _ _ h => h) (Or.inl ⟨by kernel_rfl, (by intro w9 hSw; (try dsimp only at hSw); go_simp)⟩) hHeld ?_
      try simp only [skipL, skipA, List.foldl, Act.put, List.setIfInBounds_toArray, List.set_cons_zero, List.set_cons_succ]
      refine take_at (i := 15) (d := some 21) (v := .int .i64 a) rfl rfl (by kernel_rfl) (by kernel_rfl) (by kernel_rfl) (fun _ _ _ h => h) (Or.inl ⟨by kernel_rfl, (by intro w9 hSw; (try dsimp only at hSw); go_simp)⟩) hHeld ?_
      try simp only [skipL, skipA, List.foldl, Act.put, List.setIfInBounds_toArray, List.set_cons_zero, List.set_cons_succ]
      refine take_at (i := 17) (d := some 23) (v := .pointer (some ⟨w.heap.size + 1, 0, none⟩)) rfl rfl (by kernel_rfl) (by kernel_rfl) (by kernel_rfl) (fun _ _ _ h => h) (Or.inl ⟨by kernel_rfl, (by intro w9 hSw; (try dsimp only at hSw); go_simp)⟩) hHeld ?_
      try simp only [skipL, skipA, List.foldl, Act.put, List.setIfInBounds_toArray, List.set_cons_zero, List.set_cons_succ]
      refine take_at (i := 18) (d := some 24) (v := .int .i64 a) rfl rfl (by kernel_rfl) (by kernel_rfl) (by kernel_rfl) (fun _ _ _ h => h) (Or.inl ⟨by kernel_rfl, (by intro w9 hSw; (try dsimp only at hSw); go_simp)⟩) hHeld ?_
      try simp only [skipL, skipA, List.foldl, Act.put, List.setIfInBounds_toArray, List.set_cons_zero, List.set_cons_succ]
      refine wpAnyH_ready (rs := [16]) (by kernel_rfl) (by simp) ?_
      refine (AllReadyH.cons rfl (fun K hK => ?_) AllReadyH.nil)
      · go_simp
        (go_at_call 96; (with_reducible refine (ZA.out _).mono ?_); rintro rv w1 ⟨rfl, hb⟩; have ns : w.heap.size + 1 < w1.heap.size := hb.ltK; have n0 : w1.cell? ⟨w.heap.size, 0, none⟩ = some (.int .i64 e) := hb.cellK; have n1 : w1.cell? ⟨w.heap.size, 1, none⟩ = some (.int .i64 f) := hb.cellK; have n2 : w1.cell? ⟨w.heap.size + 1, 0, none⟩ = some (.int .i64 a) := hb.cellK; have n3 : w1.cell? ⟨w.heap.size + 1, 1, none⟩ = some (.int .i64 b) := hb.cellK; (first | (have nx := hx.trK hb; clear hx) | have nx := hb); clear hb; try clear hs; try clear g0; try clear g1; try clear g2; try clear g3; have hx := nx; clear nx; have hs := ns; clear ns; have g0 := n0; clear n0; have g1 := n1; clear n1; have g2 := n2; clear n2; have g3 := n3; clear n3)
        dsimp only
        refine hK.out _ _ ?_ (fun hHeld => ?_)
        · ((refine ⟨?_, ?_, ?_, ?_, ?_⟩ <;> first | with_reducible assumption | ((repeat first | rw [cell_set_far _ _ _ _ _ _ (by omega)] | rw [cell_alloc_before _ _ _ _ (by omega)] | rw [cell_alloc_drew _ _ _ _ (by omega)] | rw [cell_drew]); with_reducible assumption) | ((rw [cell_setRow_far _ _ _ _ _ (by omega)]); with_reducible assumption) | ((rw [setRow_size]); with_reducible assumption) | (simp; done) | (simp [World.setCell]; first | done | omega) | (simp [go_sem, World.cell?_alloc_past, World.cell?_setCell_far, *]; done)))
        try simp only [skipL, skipA, List.foldl, Act.put, List.setIfInBounds_toArray, List.set_cons_zero, List.set_cons_succ]
        refine take_at (i := 19) (d := some 25) (v := .bool false) rfl rfl (by kernel_rfl) (by kernel_rfl) (by kernel_rfl) (fun _ _ _ h => h) (Or.inl ⟨by kernel_rfl, (by intro w9 hSw; (try dsimp only at hSw); go_simp)⟩) hHeld ?_
        try simp only [skipL, skipA, List.foldl, Act.put, List.setIfInBounds_toArray, List.set_cons_zero, List.set_cons_succ]
        refine take_at (i := 20) (d := some 26) (v := .bool false) rfl rfl (by kernel_rfl) (by kernel_rfl) (by kernel_rfl) (fun _ _ _ h => h) (Or.inl ⟨by rfl, (by intro w9 hSw; (try dsimp only at hSw); go_simp)⟩) hHeld ?_
        try simp only [skipL, skipA, List.foldl, Act.put, List.setIfInBounds_toArray, List.set_cons_zero, List.set_cons_succ]
        refine take_at (i := 21) (d := some 27) (v := .bool false) rfl rfl (by kernel_rfl) (by kernel_rfl) (by kernel_rfl) (fun _ _ _ h => h) (Or.inl ⟨by rfl, (by intro w9 hSw; (try dsimp only at hSw); go_simp)⟩) hHeld ?_
        try simp only [skipL, skipA, List.foldl, Act.put, List.setIfInBounds_toArray, List.set_cons_zero, List.set_cons_succ]
        refine take_at (i := 22) (d := some 28) (v := fmt e f) rfl rfl (by kernel_rfl) (by kernel_rfl) (by kernel_rfl) (fun _ _ _ h => h) (Or.inl ⟨by kernel_rfl, (by intro w9 hSw; (try dsimp only at hSw); go_simp)⟩) hHeld ?_
        try simp only [skipL, skipA, List.foldl, Act.put, List.setIfInBounds_toArray, List.set_cons_zero, List.set_cons_succ]
        refine take_at (i := 23) (d := some 29) (v := .pointer (some ⟨w.heap.size + 1, 1, none⟩)) rfl rfl (by kernel_rfl) (by kernel_rfl) (by kernel_rfl) (fun _ _ _ h => h) (Or.inl ⟨by kernel_rfl, (by intro w9 hSw; (try dsimp only at hSw); go_simp)⟩) hHeld ?_
        try simp only [skipL, skipA, List.foldl, Act.put, List.setIfInBounds_toArray, List.set_cons_zero, List.set_cons_succ]
        refine take_at (i := 24) (d := some 30) (v := .int .i64 b) rfl rfl (by kernel_rfl) (by kernel_rfl) (by kernel_rfl) (fun _ _ _ h => h) (Or.inl ⟨by kernel_rfl, (by intro w9 hSw; (try dsimp only at hSw); go_simp)⟩) hHeld ?_
        try simp only [skipL, skipA, List.foldl, Act.put, List.setIfInBounds_toArray, List.set_cons_zero, List.set_cons_succ]
        refine take_at (i := 26) (d := some 32) (v := .pointer (some ⟨w.heap.size + 1, 1, none⟩)) rfl rfl (by kernel_rfl) (by kernel_rfl) (by kernel_rfl) (fun _ _ _ h => h) (Or.inl ⟨by kernel_rfl, (by intro w9 hSw; (try dsimp only at hSw); go_simp)⟩) hHeld ?_
        try simp only [skipL, skipA, List.foldl, Act.put, List.setIfInBounds_toArray, List.set_cons_zero, List.set_cons_succ]
        refine take_at (i := 27) (d := some 33) (v := .int .i64 b) rfl rfl (by kernel_rfl) (by kernel_rfl) (by kernel_rfl) (fun _ _ _ h => h) (Or.inl ⟨by kernel_rfl, (by intro w9 hSw; (try dsimp only at hSw); go_simp)⟩) hHeld ?_
        try simp only [skipL, skipA, List.foldl, Act.put, List.setIfInBounds_toArray, List.set_cons_zero, List.set_cons_succ]
        refine wpAnyH_ready (rs := [25]) (by kernel_rfl) (by simp) ?_
        refine (AllReadyH.cons rfl (fun K hK => ?_) AllReadyH.nil)
        · go_simp
          (go_at_call 96; (with_reducible refine (ZB.out _).mono ?_); rintro rv w1 ⟨rfl, hb⟩; have ns : w.heap.size + 1 < w1.heap.size := hb.ltK; have n0 : w1.cell? ⟨w.heap.size, 0, none⟩ = some (.int .i64 e) := hb.cellK; have n1 : w1.cell? ⟨w.heap.size, 1, none⟩ = some (.int .i64 f) := hb.cellK; have n2 : w1.cell? ⟨w.heap.size + 1, 0, none⟩ = some (.int .i64 a) := hb.cellK; have n3 : w1.cell? ⟨w.heap.size + 1, 1, none⟩ = some (.int .i64 b) := hb.cellK; (first | (have nx := hx.trK hb; clear hx) | have nx := hb); clear hb; try clear hs; try clear g0; try clear g1; try clear g2; try clear g3; have hx := nx; clear nx; have hs := ns; clear ns; have g0 := n0; clear n0; have g1 := n1; clear n1; have g2 := n2; clear n2; have g3 := n3; clear n3)
          dsimp only
          refine hK.out _ _ ?_ (fun hHeld => ?_)
          · ((refine ⟨?_, ?_, ?_, ?_, ?_⟩ <;> first | with_reducible assumption | ((repeat first | rw [cell_set_far _ _ _ _ _ _ (by omega)] | rw [cell_alloc_before _ _ _ _ (by omega)] | rw [cell_alloc_drew _ _ _ _ (by omega)] | rw [cell_drew]); with_reducible assumption) | ((rw [cell_setRow_far _ _ _ _ _ (by omega)]); with_reducible assumption) | ((rw [setRow_size]); with_reducible assumption) | (simp; done) | (simp [World.setCell]; first | done | omega) | (simp [go_sem, World.cell?_alloc_past, World.cell?_setCell_far, *]; done)))
          try simp only [skipL, skipA, List.foldl, Act.put, List.setIfInBounds_toArray, List.set_cons_zero, List.set_cons_succ]
          refine take_at (i := 28) (d := some 34) (v := .bool false) rfl rfl (by kernel_rfl) (by kernel_rfl) (by kernel_rfl) (fun _ _ _ h => h) (Or.inl ⟨by kernel_rfl, (by intro w9 hSw; (try dsimp only at hSw); go_simp)⟩) hHeld ?_
          try simp only [skipL, skipA, List.foldl, Act.put, List.setIfInBounds_toArray, List.set_cons_zero, List.set_cons_succ]
          refine take_at (i := 29) (d := some 35) (v := .bool false) rfl rfl (by kernel_rfl) (by kernel_rfl) (by kernel_rfl) (fun _ _ _ h => h) (Or.inl ⟨by rfl, (by intro w9 hSw; (try dsimp only at hSw); go_simp)⟩) hHeld ?_
          try simp only [skipL, skipA, List.foldl, Act.put, List.setIfInBounds_toArray, List.set_cons_zero, List.set_cons_succ]
          refine wpAnyH_done (by kernel_rfl) ?_ _
          go_wp2_with fail
          go_wp2_with (go_at_call 97; refine (IF.out _).mono ?_; rintro rv w1 ⟨rfl, hb⟩; have ns : w.heap.size + 1 < w1.heap.size := hb.ltK; have n0 : w1.cell? ⟨w.heap.size, 0, none⟩ = some (.int .i64 e) := hb.cellK; have n1 : w1.cell? ⟨w.heap.size, 1, none⟩ = some (.int .i64 f) := hb.cellK; have n2 : w1.cell? ⟨w.heap.size + 1, 0, none⟩ = some (.int .i64 a) := hb.cellK; have n3 : w1.cell? ⟨w.heap.size + 1, 1, none⟩ = some (.int .i64 b) := hb.cellK; (first | (have nx := hx.trK hb; clear hx) | have nx := hb); clear hb; try clear hs; try clear g0; try clear g1; try clear g2; try clear g3; have hx := nx; clear nx; have hs := ns; clear ns; have g0 := n0; clear n0; have g1 := n1; clear n1; have g2 := n2; clear n2; have g3 := n3; clear n3)
          go_wp2_with fail
          refine wp_region_held_drew (S := (fun w' => w'.cell? ⟨w.heap.size, 0, none⟩ = some (.int .i64 e) ∧ w'.cell? ⟨w.heap.size, 1, none⟩ = some (.int .i64 f) ∧ w'.cell? ⟨w.heap.size + 1, 0, none⟩ = some (.int .i64 a) ∧ w'.cell? ⟨w.heap.size + 1, 1, none⟩ = some (.int .i64 b) ∧ w.heap.size + 1 < w'.heap.size)) (by kernel_rfl) ?_ (fun hHeld => ?_)
          · ((refine ⟨?_, ?_, ?_, ?_, ?_⟩ <;> first | with_reducible assumption | ((repeat first | rw [cell_set_far _ _ _ _ _ _ (by omega)] | rw [cell_alloc_before _ _ _ _ (by omega)] | rw [cell_alloc_drew _ _ _ _ (by omega)] | rw [cell_drew]); with_reducible assumption) | ((rw [cell_setRow_far _ _ _ _ _ (by omega)]); with_reducible assumption) | ((rw [setRow_size]); with_reducible assumption) | (simp; done) | (simp [World.setCell]; first | done | omega) | (simp [go_sem, World.cell?_alloc_past, World.cell?_setCell_far, *]; done)))
          refine take_at (i := 0) (d := some 38) (v := fmt e f) rfl rfl (by kernel_rfl) (by kernel_rfl) (by kernel_rfl) (fun _ _ _ h => h) (Or.inl ⟨by rfl, (by intro w9 hSw; (try dsimp only at hSw); go_simp)⟩) hHeld ?_
          try simp only [skipL, skipA, List.foldl, Act.put, List.setIfInBounds_toArray, List.set_cons_zero, List.set_cons_succ]
          refine take_at (i := 1) (d := some 39) (v := .pointer (some ⟨w.heap.size + 1, 0, none⟩)) rfl rfl (by kernel_rfl) (by kernel_rfl) (by kernel_rfl) (fun _ _ _ h => h) (Or.inl ⟨by rfl, (by intro w9 hSw; (try dsimp only at hSw); go_simp)⟩) hHeld ?_
          try simp only [skipL, skipA, List.foldl, Act.put, List.setIfInBounds_toArray, List.set_cons_zero, List.set_cons_succ]
          refine take_at (i := 2) (d := some 40) (v := .int .i64 a) rfl rfl (by kernel_rfl) (by kernel_rfl) (by kernel_rfl) (fun _ _ _ h => h) (Or.inl ⟨by rfl, (by intro w9 hSw; (try dsimp only at hSw); go_simp)⟩) hHeld ?_
          try simp only [skipL, skipA, List.foldl, Act.put, List.setIfInBounds_toArray, List.set_cons_zero, List.set_cons_succ]
          refine take_at (i := 4) (d := some 42) (v := fmt e f) rfl rfl (by kernel_rfl) (by kernel_rfl) (by kernel_rfl) (fun _ _ _ h => h) (Or.inl ⟨by rfl, (by intro w9 hSw; (try dsimp only at hSw); go_simp)⟩) hHeld ?_
          try simp only [skipL, skipA, List.foldl, Act.put, List.setIfInBounds_toArray, List.set_cons_zero, List.set_cons_succ]
          refine take_at (i := 5) (d := some 43) (v := .pointer (some ⟨w.heap.size + 1, 1, none⟩)) rfl rfl (by kernel_rfl) (by kernel_rfl) (by kernel_rfl) (fun _ _ _ h => h) (Or.inl ⟨by rfl, (by intro w9 hSw; (try dsimp only at hSw); go_simp)⟩) hHeld ?_
          try simp only [skipL, skipA, List.foldl, Act.put, List.setIfInBounds_toArray, List.set_cons_zero, List.set_cons_succ]
          refine take_at (i := 6) (d := some 44) (v := .int .i64 b) rfl rfl (by kernel_rfl) (by kernel_rfl) (by kernel_rfl) (fun _ _ _ h => h) (Or.inl ⟨by rfl, (by intro w9 hSw; (try dsimp only at hSw); go_simp)⟩) hHeld ?_
          try simp only [skipL, skipA, List.foldl, Act.put, List.setIfInBounds_toArray, List.set_cons_zero, List.set_cons_succ]
          refine wpAnyH_ready (rs := [3]) (by kernel_rfl) (by simp) ?_
          refine (AllReadyH.cons rfl (fun K hK => ?_) AllReadyH.nil)
          · go_simp
            (go_at_call 98; (with_reducible refine (KA.out _).mono ?_); rintro rv w1 ⟨rfl, hb⟩; have ns : w.heap.size + 1 < w1.heap.size := hb.ltK; have n0 : w1.cell? ⟨w.heap.size, 0, none⟩ = some (.int .i64 e) := hb.cellK; have n1 : w1.cell? ⟨w.heap.size, 1, none⟩ = some (.int .i64 f) := hb.cellK; have n2 : w1.cell? ⟨w.heap.size + 1, 0, none⟩ = some (.int .i64 a) := hb.cellK; have n3 : w1.cell? ⟨w.heap.size + 1, 1, none⟩ = some (.int .i64 b) := hb.cellK; (first | (have nx := hx.trK hb; clear hx) | have nx := hb); clear hb; try clear hs; try clear g0; try clear g1; try clear g2; try clear g3; have hx := nx; clear nx; have hs := ns; clear ns; have g0 := n0; clear n0; have g1 := n1; clear n1; have g2 := n2; clear n2; have g3 := n3; clear n3)
            dsimp only
            refine hK.out _ _ ?_ (fun hHeld => ?_)
            · ((refine ⟨?_, ?_, ?_, ?_, ?_⟩ <;> first | with_reducible assumption | ((repeat first | rw [cell_set_far _ _ _ _ _ _ (by omega)] | rw [cell_alloc_before _ _ _ _ (by omega)] | rw [cell_alloc_drew _ _ _ _ (by omega)] | rw [cell_drew]); with_reducible assumption) | ((rw [cell_setRow_far _ _ _ _ _ (by omega)]); with_reducible assumption) | ((rw [setRow_size]); with_reducible assumption) | (simp; done) | (simp [World.setCell]; first | done | omega) | (simp [go_sem, World.cell?_alloc_past, World.cell?_setCell_far, *]; done)))
            try simp only [skipL, skipA, List.foldl, Act.put, List.setIfInBounds_toArray, List.set_cons_zero, List.set_cons_succ]
            refine wpAnyH_ready (rs := [7]) (by kernel_rfl) (by simp) ?_
            refine (AllReadyH.cons rfl (fun K hK => ?_) AllReadyH.nil)
            · go_simp
              (go_at_call 98; (with_reducible refine (KB.out _).mono ?_); rintro rv w1 ⟨rfl, hb⟩; have ns : w.heap.size + 1 < w1.heap.size := hb.ltK; have n0 : w1.cell? ⟨w.heap.size, 0, none⟩ = some (.int .i64 e) := hb.cellK; have n1 : w1.cell? ⟨w.heap.size, 1, none⟩ = some (.int .i64 f) := hb.cellK; have n2 : w1.cell? ⟨w.heap.size + 1, 0, none⟩ = some (.int .i64 a) := hb.cellK; have n3 : w1.cell? ⟨w.heap.size + 1, 1, none⟩ = some (.int .i64 b) := hb.cellK; (first | (have nx := hx.trK hb; clear hx) | have nx := hb); clear hb; try clear hs; try clear g0; try clear g1; try clear g2; try clear g3; have hx := nx; clear nx; have hs := ns; clear ns; have g0 := n0; clear n0; have g1 := n1; clear n1; have g2 := n2; clear n2; have g3 := n3; clear n3)
              dsimp only
              refine hK.out _ _ ?_ (fun hHeld => ?_)
              · ((refine ⟨?_, ?_, ?_, ?_, ?_⟩ <;> first | with_reducible assumption | ((repeat first | rw [cell_set_far _ _ _ _ _ _ (by omega)] | rw [cell_alloc_before _ _ _ _ (by omega)] | rw [cell_alloc_drew _ _ _ _ (by omega)] | rw [cell_drew]); with_reducible assumption) | ((rw [cell_setRow_far _ _ _ _ _ (by omega)]); with_reducible assumption) | ((rw [setRow_size]); with_reducible assumption) | (simp; done) | (simp [World.setCell]; first | done | omega) | (simp [go_sem, World.cell?_alloc_past, World.cell?_setCell_far, *]; done)))
              try simp only [skipL, skipA, List.foldl, Act.put, List.setIfInBounds_toArray, List.set_cons_zero, List.set_cons_succ]
              refine take_at (i := 8) (d := some 46) (v := .bool true) rfl rfl (by kernel_rfl) (by kernel_rfl) (by kernel_rfl) (fun _ _ _ h => h) (Or.inl ⟨by rfl, (by intro w9 hSw; (try dsimp only at hSw); go_simp)⟩) hHeld ?_
              try simp only [skipL, skipA, List.foldl, Act.put, List.setIfInBounds_toArray, List.set_cons_zero, List.set_cons_succ]
              refine take_at (i := 9) (d := some 47) (v := .bool true) rfl rfl (by kernel_rfl) (by kernel_rfl) (by kernel_rfl) (fun _ _ _ h => h) (Or.inl ⟨by rfl, (by intro w9 hSw; (try dsimp only at hSw); go_simp)⟩) hHeld ?_
              try simp only [skipL, skipA, List.foldl, Act.put, List.setIfInBounds_toArray, List.set_cons_zero, List.set_cons_succ]
              refine take_at (i := 10) (d := some 48) (v := .pointer (some ⟨w.heap.size + 1, 0, none⟩)) rfl rfl (by kernel_rfl) (by kernel_rfl) (by kernel_rfl) (fun _ _ _ h => h) (Or.inl ⟨by kernel_rfl, (by intro w9 hSw; (try dsimp only at hSw); go_simp)⟩) hHeld ?_
              try simp only [skipL, skipA, List.foldl, Act.put, List.setIfInBounds_toArray, List.set_cons_zero, List.set_cons_succ]
              refine take_at (i := 11) (d := some 49) (v := .int .i64 a) rfl rfl (by kernel_rfl) (by kernel_rfl) (by kernel_rfl) (fun _ _ _ h => h) (Or.inl ⟨by kernel_rfl, (by intro w9 hSw; (try dsimp only at hSw); go_simp)⟩) hHeld ?_
              try simp only [skipL, skipA, List.foldl, Act.put, List.setIfInBounds_toArray, List.set_cons_zero, List.set_cons_succ]
              refine take_at (i := 12) (d := some 50) (v := .int .i64 a) rfl rfl (by kernel_rfl) (by kernel_rfl) (by kernel_rfl) (fun _ _ _ h => h) (Or.inl ⟨by kernel_rfl, (by intro w9 hSw; (try dsimp only at hSw); go_simp)⟩) hHeld ?_
              try simp only [skipL, skipA, List.foldl, Act.put, List.setIfInBounds_toArray, List.set_cons_zero, List.set_cons_succ]
              refine take_at (i := 13) (d := some 51) (v := .bool false) rfl rfl (by kernel_rfl) (by kernel_rfl) (by kernel_rfl) (fun _ _ _ h => h) (Or.inl ⟨by kernel_rfl, (by intro w9 hSw; (try dsimp only at hSw); go_simp)⟩) hHeld ?_
              try simp only [skipL, skipA, List.foldl, Act.put, List.setIfInBounds_toArray, List.set_cons_zero, List.set_cons_succ]
              refine take_at (i := 14) (d := some 52) (v := .bool false) rfl rfl (by kernel_rfl) (by kernel_rfl) (by kernel_rfl) (fun _ _ _ h => h) (Or.inl ⟨by rfl, (by intro w9 hSw; (try dsimp only at hSw); go_simp)⟩) hHeld ?_
              try simp only [skipL, skipA, List.foldl, Act.put, List.setIfInBounds_toArray, List.set_cons_zero, List.set_cons_succ]
              refine take_at (i := 15) (d := some 53) (v := .bool false) rfl rfl (by kernel_rfl) (by kernel_rfl) (by kernel_rfl) (fun _ _ _ h => h) (Or.inl ⟨by rfl, (by intro w9 hSw; (try dsimp only at hSw); go_simp)⟩) hHeld ?_
              try simp only [skipL, skipA, List.foldl, Act.put, List.setIfInBounds_toArray, List.set_cons_zero, List.set_cons_succ]
              refine wpAnyH_skips (is := [(16, 54), (17, 55), (18, 56), (19, 57), (20, 58), (21, 59)]) (by kernel_rfl) (fun _ _ _ _ h => h) hHeld 2 _ _ (by kernel_rfl) ?_
              try simp only [skipL, skipA, List.foldl, Act.put, List.setIfInBounds_toArray, List.set_cons_zero, List.set_cons_succ]
              refine take_at (i := 22) (d := some 60) (v := .bool false) rfl rfl (by kernel_rfl) (by kernel_rfl) (by kernel_rfl) (fun _ _ _ h => h) (Or.inl ⟨by rfl, (by intro w9 hSw; (try dsimp only at hSw); go_simp)⟩) hHeld ?_
              try simp only [skipL, skipA, List.foldl, Act.put, List.setIfInBounds_toArray, List.set_cons_zero, List.set_cons_succ]
              refine take_at (i := 23) (d := some 4) (v := .bool false) rfl rfl (by kernel_rfl) (by kernel_rfl) (by kernel_rfl) (fun _ _ _ h => h) (Or.inl ⟨by rfl, (by intro w9 hSw; (try dsimp only at hSw); go_simp)⟩) hHeld ?_
              try simp only [skipL, skipA, List.foldl, Act.put, List.setIfInBounds_toArray, List.set_cons_zero, List.set_cons_succ]
              refine wpAnyH_done (by kernel_rfl) ?_ _
              go_wp2_with fail
              go_ret
              exact ⟨rfl, Ext.auK⟩

set_option maxHeartbeats 12800000 in
theorem ivGood_g (e f a b : Int) (ha : enB e f a = true) (hb : enB e f b = true) (hle : ikV e f a ≤ ikV e f b) (hne : ¬ a = inV e f) (w : World) : Calls Tryz.prog 50 #[fmt e f, two a b] w fun rv w' => rv = .returned (.bool (!(b == pw (e + f) + inV e f))) ∧ Ext w w' := by
  have NA := Lib.hid (fun w => fmNumber_any e f a w)
  have NB := Lib.hid (fun w => fmNumber_any e f b w)
  obtain ⟨hg, na, pa, _⟩ := en_parts ha
  obtain ⟨_, nb, pb, _⟩ := en_parts hb
  have ZA := Lib.hid (fun w => ivZero_any e f a pa w)
  have ZB := Lib.hid (fun w => ivZero_any e f b pb w)
  rw [iz_end ha] at ZA
  rw [iz_end hb] at ZB
  rw [na] at NA
  rw [nb] at NB
  have KA : RowKit.Hid (∀ w, Calls Tryz.prog 98 #[fmt e f, .int .i64 a] w fun rv w' => rv = .returned (.int .i64 (ikV e f a)) ∧ Ext w w') := Lib.hid (fun w => fmKey_any e f a pa w)
  have KB : RowKit.Hid (∀ w, Calls Tryz.prog 98 #[fmt e f, .int .i64 b] w fun rv w' => rv = .returned (.int .i64 (ikV e f b)) ∧ Ext w w') := Lib.hid (fun w => fmKey_any e f b pb w)
  obtain ⟨i0, i1, i2⟩ := in_bd hg
  have pI : patB e f (inV e f) = true := pat_iff.2 ⟨hg, by omega, by omega⟩
  have e1 : inV e f / pw (e + f) = 0 := Int.ediv_eq_zero_of_lt (by omega) i1
  have e2 : inV e f % pw (e + f) = inV e f := Int.emod_eq_of_lt (by omega) i1
  have NG := fun w => fmNegate_any e f (inV e f) pI w
  have e3 : (1 - inV e f / pw (e + f)) * pw (e + f) + inV e f % pw (e + f) = pw (e + f) + inV e f := by rw [e1, e2]; omega
  rw [e3] at NG
  have NG := Lib.hid NG
  have IF : RowKit.Hid (∀ w, Calls Tryz.prog 97 #[fmt e f] w fun rv w' => rv = .returned (.int .i64 (inV e f)) ∧ Ext w w') := Lib.hid (fun w => fmInfinite_any e f hg w)
  clear ha hb na nb pa pb hg i0 i1 i2 pI e1 e2 e3
  generalize ikV e f a = ka at *
  generalize ikV e f b = kb at *
  generalize pw (e + f) + inV e f = M at *
  generalize inV e f = G at *
  go_enter Tryz.func50, Tryz.ntmps50
  go_wp2_with fail
  refine wp_region_held_drew (S := (fun w' => w'.cell? ⟨w.heap.size, 0, none⟩ = some (.int .i64 e) ∧ w'.cell? ⟨w.heap.size, 1, none⟩ = some (.int .i64 f) ∧ w'.cell? ⟨w.heap.size + 1, 0, none⟩ = some (.int .i64 a) ∧ w'.cell? ⟨w.heap.size + 1, 1, none⟩ = some (.int .i64 b) ∧ w.heap.size + 1 < w'.heap.size)) (by kernel_rfl) ?_ (fun hHeld => ?_)
  · ((refine ⟨?_, ?_, ?_, ?_, ?_⟩ <;> first | with_reducible assumption | ((repeat first | rw [cell_set_far _ _ _ _ _ _ (by omega)] | rw [cell_alloc_before _ _ _ _ (by omega)] | rw [cell_alloc_drew _ _ _ _ (by omega)] | rw [cell_drew]); with_reducible assumption) | ((rw [cell_setRow_far _ _ _ _ _ (by omega)]); with_reducible assumption) | ((rw [setRow_size]); with_reducible assumption) | (simp; done) | (simp [World.setCell]; first | done | omega) | (simp [go_sem, World.cell?_alloc_past, World.cell?_setCell_far, *]; done)))
  refine take_at (i := 0) (d := some 6) (v := fmt e f) rfl rfl (by kernel_rfl) (by kernel_rfl) (by kernel_rfl) (fun _ _ _ h => h) (Or.inl ⟨by rfl, (by intro w9 hSw; (try dsimp only at hSw); go_simp)⟩) hHeld ?_
  try simp only [skipL, skipA, List.foldl, Act.put, List.setIfInBounds_toArray, List.set_cons_zero, List.set_cons_succ]
  refine take_at (i := 1) (d := some 7) (v := .pointer (some ⟨w.heap.size + 1, 0, none⟩)) rfl rfl (by kernel_rfl) (by kernel_rfl) (by kernel_rfl) (fun _ _ _ h => h) (Or.inl ⟨by rfl, (by intro w9 hSw; (try dsimp only at hSw); go_simp)⟩) hHeld ?_
  try simp only [skipL, skipA, List.foldl, Act.put, List.setIfInBounds_toArray, List.set_cons_zero, List.set_cons_succ]
  refine take_at (i := 2) (d := some 8) (v := .int .i64 a) rfl rfl (by kernel_rfl) (by kernel_rfl) (by kernel_rfl) (fun _ _ _ h => h) (Or.inl ⟨by rfl, (by intro w9 hSw; (try dsimp only at hSw); go_simp)⟩) hHeld ?_
  try simp only [skipL, skipA, List.foldl, Act.put, List.setIfInBounds_toArray, List.set_cons_zero, List.set_cons_succ]
  refine wpAnyH_ready (rs := [3]) (by kernel_rfl) (by simp) ?_
  refine (AllReadyH.cons rfl (fun K hK => ?_) AllReadyH.nil)
  · go_simp
    (go_at_call 95; (with_reducible refine (NA.out _).mono ?_); rintro rv w1 ⟨rfl, hb⟩; have ns : w.heap.size + 1 < w1.heap.size := hb.ltK; have n0 : w1.cell? ⟨w.heap.size, 0, none⟩ = some (.int .i64 e) := hb.cellK; have n1 : w1.cell? ⟨w.heap.size, 1, none⟩ = some (.int .i64 f) := hb.cellK; have n2 : w1.cell? ⟨w.heap.size + 1, 0, none⟩ = some (.int .i64 a) := hb.cellK; have n3 : w1.cell? ⟨w.heap.size + 1, 1, none⟩ = some (.int .i64 b) := hb.cellK; (first | (have nx := hx.trK hb; clear hx) | have nx := hb); clear hb; try clear hs; try clear g0; try clear g1; try clear g2; try clear g3; have hx := nx; clear nx; have hs := ns; clear ns; have g0 := n0; clear n0; have g1 := n1; clear n1; have g2 := n2; clear n2; have g3 := n3; clear n3)
    dsimp only
    refine hK.out _ _ ?_ (fun hHeld => ?_)
    · ((refine ⟨?_, ?_, ?_, ?_, ?_⟩ <;> first | with_reducible assumption | ((repeat first | rw [cell_set_far _ _ _ _ _ _ (by omega)] | rw [cell_alloc_before _ _ _ _ (by omega)] | rw [cell_alloc_drew _ _ _ _ (by omega)] | rw [cell_drew]); with_reducible assumption) | ((rw [cell_setRow_far _ _ _ _ _ (by omega)]); with_reducible assumption) | ((rw [setRow_size]); with_reducible assumption) | (simp; done) | (simp [World.setCell]; first | done | omega) | (simp [go_sem, World.cell?_alloc_past, World.cell?_setCell_far, *]; done)))
    try simp only [skipL, skipA, List.foldl, Act.put, List.setIfInBounds_toArray, List.set_cons_zero, List.set_cons_succ]
    refine take_at (i := 4) (d := some 10) (v := .bool false) rfl rfl (by kernel_rfl) (by kernel_rfl) (by kernel_rfl) (fun _ _ _ h => h) (Or.inl ⟨by rfl, (by intro w9 hSw; (try dsimp only at hSw); go_simp)⟩) hHeld ?_
    try simp only [skipL, skipA, List.foldl, Act.put, List.setIfInBounds_toArray, List.set_cons_zero, List.set_cons_succ]
    refine take_at (i := 5) (d := some 11) (v := .bool false) rfl rfl (by kernel_rfl) (by kernel_rfl) (by kernel_rfl) (fun _ _ _ h => h) (Or.inl ⟨by rfl, (by intro w9 hSw; (try dsimp only at hSw); go_simp)⟩) hHeld ?_
    try simp only [skipL, skipA, List.foldl, Act.put, List.setIfInBounds_toArray, List.set_cons_zero, List.set_cons_succ]
    refine take_at (i := 6) (d := some 12) (v := fmt e f) rfl rfl (by kernel_rfl) (by kernel_rfl) (by kernel_rfl) (fun _ _ _ h => h) (Or.inl ⟨by kernel_rfl, (by intro w9 hSw; (try dsimp only at hSw); go_simp)⟩) hHeld ?_
    try simp only [skipL, skipA, List.foldl, Act.put, List.setIfInBounds_toArray, List.set_cons_zero, List.set_cons_succ]
    refine take_at (i := 7) (d := some 13) (v := .pointer (some ⟨w.heap.size + 1, 1, none⟩)) rfl rfl (by kernel_rfl) (by kernel_rfl) (by kernel_rfl) (fun _ _ _ h => h) (Or.inl ⟨by kernel_rfl, (by intro w9 hSw; (try dsimp only at hSw); go_simp)⟩) hHeld ?_
    try simp only [skipL, skipA, List.foldl, Act.put, List.setIfInBounds_toArray, List.set_cons_zero, List.set_cons_succ]
    refine take_at (i := 8) (d := some 14) (v := .int .i64 b) rfl rfl (by kernel_rfl) (by kernel_rfl) (by kernel_rfl) (fun _ _ _ h => h) (Or.inl ⟨by kernel_rfl, (by intro w9 hSw; (try dsimp only at hSw); go_simp)⟩) hHeld ?_
    try simp only [skipL, skipA, List.foldl, Act.put, List.setIfInBounds_toArray, List.set_cons_zero, List.set_cons_succ]
    refine wpAnyH_ready (rs := [9]) (by kernel_rfl) (by simp) ?_
    refine (AllReadyH.cons rfl (fun K hK => ?_) AllReadyH.nil)
    · go_simp
      (go_at_call 95; (with_reducible refine (NB.out _).mono ?_); rintro rv w1 ⟨rfl, hb⟩; have ns : w.heap.size + 1 < w1.heap.size := hb.ltK; have n0 : w1.cell? ⟨w.heap.size, 0, none⟩ = some (.int .i64 e) := hb.cellK; have n1 : w1.cell? ⟨w.heap.size, 1, none⟩ = some (.int .i64 f) := hb.cellK; have n2 : w1.cell? ⟨w.heap.size + 1, 0, none⟩ = some (.int .i64 a) := hb.cellK; have n3 : w1.cell? ⟨w.heap.size + 1, 1, none⟩ = some (.int .i64 b) := hb.cellK; (first | (have nx := hx.trK hb; clear hx) | have nx := hb); clear hb; try clear hs; try clear g0; try clear g1; try clear g2; try clear g3; have hx := nx; clear nx; have hs := ns; clear ns; have g0 := n0; clear n0; have g1 := n1; clear n1; have g2 := n2; clear n2; have g3 := n3; clear n3)
      dsimp only
      refine hK.out _ _ ?_ (fun hHeld => ?_)
      · ((refine ⟨?_, ?_, ?_, ?_, ?_⟩ <;> first | with_reducible assumption | ((repeat first | rw [cell_set_far _ _ _ _ _ _ (by omega)] | rw [cell_alloc_before _ _ _ _ (by omega)] | rw [cell_alloc_drew _ _ _ _ (by omega)] | rw [cell_drew]); with_reducible assumption) | ((rw [cell_setRow_far _ _ _ _ _ (by omega)]); with_reducible assumption) | ((rw [setRow_size]); with_reducible assumption) | (simp; done) | (simp [World.setCell]; first | done | omega) | (simp [go_sem, World.cell?_alloc_past, World.cell?_setCell_far, *]; done)))
      try simp only [skipL, skipA, List.foldl, Act.put, List.setIfInBounds_toArray, List.set_cons_zero, List.set_cons_succ]
      refine take_at (i := 10) (d := some 16) (v := .bool false) rfl rfl (by kernel_rfl) (by kernel_rfl) (by kernel_rfl) (fun _ _ _ h => h) (Or.inl ⟨by kernel_rfl, (by intro w9 hSw; (try dsimp only at hSw); go_simp)⟩) hHeld ?_
      try simp only [skipL, skipA, List.foldl, Act.put, List.setIfInBounds_toArray, List.set_cons_zero, List.set_cons_succ]
      refine take_at (i := 11) (d := some 17) (v := .bool false) rfl rfl (by kernel_rfl) (by kernel_rfl) (by kernel_rfl) (fun _ _ _ h => h) (Or.inl ⟨by rfl, (by intro w9 hSw; (try dsimp only at hSw); go_simp)⟩) hHeld ?_
      try simp only [skipL, skipA, List.foldl, Act.put, List.setIfInBounds_toArray, List.set_cons_zero, List.set_cons_succ]
      refine take_at (i := 12) (d := some 18) (v := .bool false) rfl rfl (by kernel_rfl) (by kernel_rfl) (by kernel_rfl) (fun _ _ _ h => h) (Or.inl ⟨by rfl, (by intro w9 hSw; (try dsimp only at hSw); go_simp)⟩) hHeld ?_
      try simp only [skipL, skipA, List.foldl, Act.put, List.setIfInBounds_toArray, List.set_cons_zero, List.set_cons_succ]
      refine take_at (i := 13) (d := some 19) (v := fmt e f) rfl rfl (by kernel_rfl) (by kernel_rfl) (by kernel_rfl) (fun _ _ _ h => h) (Or.inl ⟨by kernel_rfl, (by intro w9 hSw; (try dsimp only at hSw); go_simp)⟩) hHeld ?_
      try simp only [skipL, skipA, List.foldl, Act.put, List.setIfInBounds_toArray, List.set_cons_zero, List.set_cons_succ]
      refine take_at (i := 14) (d := some 20) (v := .pointer (some ⟨w.heap.size + 1, 0, none⟩)) rfl rfl (by kernel_rfl) (by kernel_rfl) (by kernel_rfl) (fun _ _ _ h => h) (Or.inl ⟨by kernel_rfl, (by intro w9 hSw; (try dsimp only at hSw); go_simp)⟩) hHeld ?_
      try simp only [skipL, skipA, List.foldl, Act.put, List.setIfInBounds_toArray, List.set_cons_zero, List.set_cons_succ]
      refine take_at (i := 15) (d := some 21) (v := .int .i64 a) rfl rfl (by kernel_rfl) (by kernel_rfl) (by kernel_rfl) (fun _ _ _ h => h) (Or.inl ⟨by kernel_rfl, (by intro w9 hSw; (try dsimp only at hSw); go_simp)⟩) hHeld ?_
      try simp only [skipL, skipA, List.foldl, Act.put, List.setIfInBounds_toArray, List.set_cons_zero, List.set_cons_succ]
      refine take_at (i := 17) (d := some 23) (v := .pointer (some ⟨w.heap.size + 1, 0, none⟩)) rfl rfl (by kernel_rfl) (by kernel_rfl) (by kernel_rfl) (fun _ _ _ h => h) (Or.inl ⟨by kernel_rfl, (by intro w9 hSw; (try dsimp only at hSw); go_simp)⟩) hHeld ?_
      try simp only [skipL, skipA, List.foldl, Act.put, List.setIfInBounds_toArray, List.set_cons_zero, List.set_cons_succ]
      refine take_at (i := 18) (d := some 24) (v := .int .i64 a) rfl rfl (by kernel_rfl) (by kernel_rfl) (by kernel_rfl) (fun _ _ _ h => h) (Or.inl ⟨by kernel_rfl, (by intro w9 hSw; (try dsimp only at hSw); go_simp)⟩) hHeld ?_
      try simp only [skipL, skipA, List.foldl, Act.put, List.setIfInBounds_toArray, List.set_cons_zero, List.set_cons_succ]
      refine wpAnyH_ready (rs := [16]) (by kernel_rfl) (by simp) ?_
      refine (AllReadyH.cons rfl (fun K hK => ?_) AllReadyH.nil)
      · go_simp
        (go_at_call 96; (with_reducible refine (ZA.out _).mono ?_); rintro rv w1 ⟨rfl, hb⟩; have ns : w.heap.size + 1 < w1.heap.size := hb.ltK; have n0 : w1.cell? ⟨w.heap.size, 0, none⟩ = some (.int .i64 e) := hb.cellK; have n1 : w1.cell? ⟨w.heap.size, 1, none⟩ = some (.int .i64 f) := hb.cellK; have n2 : w1.cell? ⟨w.heap.size + 1, 0, none⟩ = some (.int .i64 a) := hb.cellK; have n3 : w1.cell? ⟨w.heap.size + 1, 1, none⟩ = some (.int .i64 b) := hb.cellK; (first | (have nx := hx.trK hb; clear hx) | have nx := hb); clear hb; try clear hs; try clear g0; try clear g1; try clear g2; try clear g3; have hx := nx; clear nx; have hs := ns; clear ns; have g0 := n0; clear n0; have g1 := n1; clear n1; have g2 := n2; clear n2; have g3 := n3; clear n3)
        dsimp only
        refine hK.out _ _ ?_ (fun hHeld => ?_)
        · ((refine ⟨?_, ?_, ?_, ?_, ?_⟩ <;> first | with_reducible assumption | ((repeat first | rw [cell_set_far _ _ _ _ _ _ (by omega)] | rw [cell_alloc_before _ _ _ _ (by omega)] | rw [cell_alloc_drew _ _ _ _ (by omega)] | rw [cell_drew]); with_reducible assumption) | ((rw [cell_setRow_far _ _ _ _ _ (by omega)]); with_reducible assumption) | ((rw [setRow_size]); with_reducible assumption) | (simp; done) | (simp [World.setCell]; first | done | omega) | (simp [go_sem, World.cell?_alloc_past, World.cell?_setCell_far, *]; done)))
        try simp only [skipL, skipA, List.foldl, Act.put, List.setIfInBounds_toArray, List.set_cons_zero, List.set_cons_succ]
        refine take_at (i := 19) (d := some 25) (v := .bool false) rfl rfl (by kernel_rfl) (by kernel_rfl) (by kernel_rfl) (fun _ _ _ h => h) (Or.inl ⟨by kernel_rfl, (by intro w9 hSw; (try dsimp only at hSw); go_simp)⟩) hHeld ?_
        try simp only [skipL, skipA, List.foldl, Act.put, List.setIfInBounds_toArray, List.set_cons_zero, List.set_cons_succ]
        refine take_at (i := 20) (d := some 26) (v := .bool false) rfl rfl (by kernel_rfl) (by kernel_rfl) (by kernel_rfl) (fun _ _ _ h => h) (Or.inl ⟨by rfl, (by intro w9 hSw; (try dsimp only at hSw); go_simp)⟩) hHeld ?_
        try simp only [skipL, skipA, List.foldl, Act.put, List.setIfInBounds_toArray, List.set_cons_zero, List.set_cons_succ]
        refine take_at (i := 21) (d := some 27) (v := .bool false) rfl rfl (by kernel_rfl) (by kernel_rfl) (by kernel_rfl) (fun _ _ _ h => h) (Or.inl ⟨by rfl, (by intro w9 hSw; (try dsimp only at hSw); go_simp)⟩) hHeld ?_
        try simp only [skipL, skipA, List.foldl, Act.put, List.setIfInBounds_toArray, List.set_cons_zero, List.set_cons_succ]
        refine take_at (i := 22) (d := some 28) (v := fmt e f) rfl rfl (by kernel_rfl) (by kernel_rfl) (by kernel_rfl) (fun _ _ _ h => h) (Or.inl ⟨by kernel_rfl, (by intro w9 hSw; (try dsimp only at hSw); go_simp)⟩) hHeld ?_
        try simp only [skipL, skipA, List.foldl, Act.put, List.setIfInBounds_toArray, List.set_cons_zero, List.set_cons_succ]
        refine take_at (i := 23) (d := some 29) (v := .pointer (some ⟨w.heap.size + 1, 1, none⟩)) rfl rfl (by kernel_rfl) (by kernel_rfl) (by kernel_rfl) (fun _ _ _ h => h) (Or.inl ⟨by kernel_rfl, (by intro w9 hSw; (try dsimp only at hSw); go_simp)⟩) hHeld ?_
        try simp only [skipL, skipA, List.foldl, Act.put, List.setIfInBounds_toArray, List.set_cons_zero, List.set_cons_succ]
        refine take_at (i := 24) (d := some 30) (v := .int .i64 b) rfl rfl (by kernel_rfl) (by kernel_rfl) (by kernel_rfl) (fun _ _ _ h => h) (Or.inl ⟨by kernel_rfl, (by intro w9 hSw; (try dsimp only at hSw); go_simp)⟩) hHeld ?_
        try simp only [skipL, skipA, List.foldl, Act.put, List.setIfInBounds_toArray, List.set_cons_zero, List.set_cons_succ]
        refine take_at (i := 26) (d := some 32) (v := .pointer (some ⟨w.heap.size + 1, 1, none⟩)) rfl rfl (by kernel_rfl) (by kernel_rfl) (by kernel_rfl) (fun _ _ _ h => h) (Or.inl ⟨by kernel_rfl, (by intro w9 hSw; (try dsimp only at hSw); go_simp)⟩) hHeld ?_
        try simp only [skipL, skipA, List.foldl, Act.put, List.setIfInBounds_toArray, List.set_cons_zero, List.set_cons_succ]
        refine take_at (i := 27) (d := some 33) (v := .int .i64 b) rfl rfl (by kernel_rfl) (by kernel_rfl) (by kernel_rfl) (fun _ _ _ h => h) (Or.inl ⟨by kernel_rfl, (by intro w9 hSw; (try dsimp only at hSw); go_simp)⟩) hHeld ?_
        try simp only [skipL, skipA, List.foldl, Act.put, List.setIfInBounds_toArray, List.set_cons_zero, List.set_cons_succ]
        refine wpAnyH_ready (rs := [25]) (by kernel_rfl) (by simp) ?_
        refine (AllReadyH.cons rfl (fun K hK => ?_) AllReadyH.nil)
        · go_simp
          (go_at_call 96; (with_reducible refine (ZB.out _).mono ?_); rintro rv w1 ⟨rfl, hb⟩; have ns : w.heap.size + 1 < w1.heap.size := hb.ltK; have n0 : w1.cell? ⟨w.heap.size, 0, none⟩ = some (.int .i64 e) := hb.cellK; have n1 : w1.cell? ⟨w.heap.size, 1, none⟩ = some (.int .i64 f) := hb.cellK; have n2 : w1.cell? ⟨w.heap.size + 1, 0, none⟩ = some (.int .i64 a) := hb.cellK; have n3 : w1.cell? ⟨w.heap.size + 1, 1, none⟩ = some (.int .i64 b) := hb.cellK; (first | (have nx := hx.trK hb; clear hx) | have nx := hb); clear hb; try clear hs; try clear g0; try clear g1; try clear g2; try clear g3; have hx := nx; clear nx; have hs := ns; clear ns; have g0 := n0; clear n0; have g1 := n1; clear n1; have g2 := n2; clear n2; have g3 := n3; clear n3)
          dsimp only
          refine hK.out _ _ ?_ (fun hHeld => ?_)
          · ((refine ⟨?_, ?_, ?_, ?_, ?_⟩ <;> first | with_reducible assumption | ((repeat first | rw [cell_set_far _ _ _ _ _ _ (by omega)] | rw [cell_alloc_before _ _ _ _ (by omega)] | rw [cell_alloc_drew _ _ _ _ (by omega)] | rw [cell_drew]); with_reducible assumption) | ((rw [cell_setRow_far _ _ _ _ _ (by omega)]); with_reducible assumption) | ((rw [setRow_size]); with_reducible assumption) | (simp; done) | (simp [World.setCell]; first | done | omega) | (simp [go_sem, World.cell?_alloc_past, World.cell?_setCell_far, *]; done)))
          try simp only [skipL, skipA, List.foldl, Act.put, List.setIfInBounds_toArray, List.set_cons_zero, List.set_cons_succ]
          refine take_at (i := 28) (d := some 34) (v := .bool false) rfl rfl (by kernel_rfl) (by kernel_rfl) (by kernel_rfl) (fun _ _ _ h => h) (Or.inl ⟨by kernel_rfl, (by intro w9 hSw; (try dsimp only at hSw); go_simp)⟩) hHeld ?_
          try simp only [skipL, skipA, List.foldl, Act.put, List.setIfInBounds_toArray, List.set_cons_zero, List.set_cons_succ]
          refine take_at (i := 29) (d := some 35) (v := .bool false) rfl rfl (by kernel_rfl) (by kernel_rfl) (by kernel_rfl) (fun _ _ _ h => h) (Or.inl ⟨by rfl, (by intro w9 hSw; (try dsimp only at hSw); go_simp)⟩) hHeld ?_
          try simp only [skipL, skipA, List.foldl, Act.put, List.setIfInBounds_toArray, List.set_cons_zero, List.set_cons_succ]
          refine wpAnyH_done (by kernel_rfl) ?_ _
          go_wp2_with fail
          go_wp2_with (go_at_call 97; refine (IF.out _).mono ?_; rintro rv w1 ⟨rfl, hb⟩; have ns : w.heap.size + 1 < w1.heap.size := hb.ltK; have n0 : w1.cell? ⟨w.heap.size, 0, none⟩ = some (.int .i64 e) := hb.cellK; have n1 : w1.cell? ⟨w.heap.size, 1, none⟩ = some (.int .i64 f) := hb.cellK; have n2 : w1.cell? ⟨w.heap.size + 1, 0, none⟩ = some (.int .i64 a) := hb.cellK; have n3 : w1.cell? ⟨w.heap.size + 1, 1, none⟩ = some (.int .i64 b) := hb.cellK; (first | (have nx := hx.trK hb; clear hx) | have nx := hb); clear hb; try clear hs; try clear g0; try clear g1; try clear g2; try clear g3; have hx := nx; clear nx; have hs := ns; clear ns; have g0 := n0; clear n0; have g1 := n1; clear n1; have g2 := n2; clear n2; have g3 := n3; clear n3)
          go_wp2_with fail
          refine wp_region_held_drew (S := (fun w' => w'.cell? ⟨w.heap.size, 0, none⟩ = some (.int .i64 e) ∧ w'.cell? ⟨w.heap.size, 1, none⟩ = some (.int .i64 f) ∧ w'.cell? ⟨w.heap.size + 1, 0, none⟩ = some (.int .i64 a) ∧ w'.cell? ⟨w.heap.size + 1, 1, none⟩ = some (.int .i64 b) ∧ w.heap.size + 1 < w'.heap.size)) (by kernel_rfl) ?_ (fun hHeld => ?_)
          · ((refine ⟨?_, ?_, ?_, ?_, ?_⟩ <;> first | with_reducible assumption | ((repeat first | rw [cell_set_far _ _ _ _ _ _ (by omega)] | rw [cell_alloc_before _ _ _ _ (by omega)] | rw [cell_alloc_drew _ _ _ _ (by omega)] | rw [cell_drew]); with_reducible assumption) | ((rw [cell_setRow_far _ _ _ _ _ (by omega)]); with_reducible assumption) | ((rw [setRow_size]); with_reducible assumption) | (simp; done) | (simp [World.setCell]; first | done | omega) | (simp [go_sem, World.cell?_alloc_past, World.cell?_setCell_far, *]; done)))
          refine take_at (i := 0) (d := some 38) (v := fmt e f) rfl rfl (by kernel_rfl) (by kernel_rfl) (by kernel_rfl) (fun _ _ _ h => h) (Or.inl ⟨by rfl, (by intro w9 hSw; (try dsimp only at hSw); go_simp)⟩) hHeld ?_
          try simp only [skipL, skipA, List.foldl, Act.put, List.setIfInBounds_toArray, List.set_cons_zero, List.set_cons_succ]
          refine take_at (i := 1) (d := some 39) (v := .pointer (some ⟨w.heap.size + 1, 0, none⟩)) rfl rfl (by kernel_rfl) (by kernel_rfl) (by kernel_rfl) (fun _ _ _ h => h) (Or.inl ⟨by rfl, (by intro w9 hSw; (try dsimp only at hSw); go_simp)⟩) hHeld ?_
          try simp only [skipL, skipA, List.foldl, Act.put, List.setIfInBounds_toArray, List.set_cons_zero, List.set_cons_succ]
          refine take_at (i := 2) (d := some 40) (v := .int .i64 a) rfl rfl (by kernel_rfl) (by kernel_rfl) (by kernel_rfl) (fun _ _ _ h => h) (Or.inl ⟨by rfl, (by intro w9 hSw; (try dsimp only at hSw); go_simp)⟩) hHeld ?_
          try simp only [skipL, skipA, List.foldl, Act.put, List.setIfInBounds_toArray, List.set_cons_zero, List.set_cons_succ]
          refine take_at (i := 4) (d := some 42) (v := fmt e f) rfl rfl (by kernel_rfl) (by kernel_rfl) (by kernel_rfl) (fun _ _ _ h => h) (Or.inl ⟨by rfl, (by intro w9 hSw; (try dsimp only at hSw); go_simp)⟩) hHeld ?_
          try simp only [skipL, skipA, List.foldl, Act.put, List.setIfInBounds_toArray, List.set_cons_zero, List.set_cons_succ]
          refine take_at (i := 5) (d := some 43) (v := .pointer (some ⟨w.heap.size + 1, 1, none⟩)) rfl rfl (by kernel_rfl) (by kernel_rfl) (by kernel_rfl) (fun _ _ _ h => h) (Or.inl ⟨by rfl, (by intro w9 hSw; (try dsimp only at hSw); go_simp)⟩) hHeld ?_
          try simp only [skipL, skipA, List.foldl, Act.put, List.setIfInBounds_toArray, List.set_cons_zero, List.set_cons_succ]
          refine take_at (i := 6) (d := some 44) (v := .int .i64 b) rfl rfl (by kernel_rfl) (by kernel_rfl) (by kernel_rfl) (fun _ _ _ h => h) (Or.inl ⟨by rfl, (by intro w9 hSw; (try dsimp only at hSw); go_simp)⟩) hHeld ?_
          try simp only [skipL, skipA, List.foldl, Act.put, List.setIfInBounds_toArray, List.set_cons_zero, List.set_cons_succ]
          refine wpAnyH_ready (rs := [3]) (by kernel_rfl) (by simp) ?_
          refine (AllReadyH.cons rfl (fun K hK => ?_) AllReadyH.nil)
          · go_simp
            (go_at_call 98; (with_reducible refine (KA.out _).mono ?_); rintro rv w1 ⟨rfl, hb⟩; have ns : w.heap.size + 1 < w1.heap.size := hb.ltK; have n0 : w1.cell? ⟨w.heap.size, 0, none⟩ = some (.int .i64 e) := hb.cellK; have n1 : w1.cell? ⟨w.heap.size, 1, none⟩ = some (.int .i64 f) := hb.cellK; have n2 : w1.cell? ⟨w.heap.size + 1, 0, none⟩ = some (.int .i64 a) := hb.cellK; have n3 : w1.cell? ⟨w.heap.size + 1, 1, none⟩ = some (.int .i64 b) := hb.cellK; (first | (have nx := hx.trK hb; clear hx) | have nx := hb); clear hb; try clear hs; try clear g0; try clear g1; try clear g2; try clear g3; have hx := nx; clear nx; have hs := ns; clear ns; have g0 := n0; clear n0; have g1 := n1; clear n1; have g2 := n2; clear n2; have g3 := n3; clear n3)
            dsimp only
            refine hK.out _ _ ?_ (fun hHeld => ?_)
            · ((refine ⟨?_, ?_, ?_, ?_, ?_⟩ <;> first | with_reducible assumption | ((repeat first | rw [cell_set_far _ _ _ _ _ _ (by omega)] | rw [cell_alloc_before _ _ _ _ (by omega)] | rw [cell_alloc_drew _ _ _ _ (by omega)] | rw [cell_drew]); with_reducible assumption) | ((rw [cell_setRow_far _ _ _ _ _ (by omega)]); with_reducible assumption) | ((rw [setRow_size]); with_reducible assumption) | (simp; done) | (simp [World.setCell]; first | done | omega) | (simp [go_sem, World.cell?_alloc_past, World.cell?_setCell_far, *]; done)))
            try simp only [skipL, skipA, List.foldl, Act.put, List.setIfInBounds_toArray, List.set_cons_zero, List.set_cons_succ]
            refine wpAnyH_ready (rs := [7]) (by kernel_rfl) (by simp) ?_
            refine (AllReadyH.cons rfl (fun K hK => ?_) AllReadyH.nil)
            · go_simp
              (go_at_call 98; (with_reducible refine (KB.out _).mono ?_); rintro rv w1 ⟨rfl, hb⟩; have ns : w.heap.size + 1 < w1.heap.size := hb.ltK; have n0 : w1.cell? ⟨w.heap.size, 0, none⟩ = some (.int .i64 e) := hb.cellK; have n1 : w1.cell? ⟨w.heap.size, 1, none⟩ = some (.int .i64 f) := hb.cellK; have n2 : w1.cell? ⟨w.heap.size + 1, 0, none⟩ = some (.int .i64 a) := hb.cellK; have n3 : w1.cell? ⟨w.heap.size + 1, 1, none⟩ = some (.int .i64 b) := hb.cellK; (first | (have nx := hx.trK hb; clear hx) | have nx := hb); clear hb; try clear hs; try clear g0; try clear g1; try clear g2; try clear g3; have hx := nx; clear nx; have hs := ns; clear ns; have g0 := n0; clear n0; have g1 := n1; clear n1; have g2 := n2; clear n2; have g3 := n3; clear n3)
              dsimp only
              refine hK.out _ _ ?_ (fun hHeld => ?_)
              · ((refine ⟨?_, ?_, ?_, ?_, ?_⟩ <;> first | with_reducible assumption | ((repeat first | rw [cell_set_far _ _ _ _ _ _ (by omega)] | rw [cell_alloc_before _ _ _ _ (by omega)] | rw [cell_alloc_drew _ _ _ _ (by omega)] | rw [cell_drew]); with_reducible assumption) | ((rw [cell_setRow_far _ _ _ _ _ (by omega)]); with_reducible assumption) | ((rw [setRow_size]); with_reducible assumption) | (simp; done) | (simp [World.setCell]; first | done | omega) | (simp [go_sem, World.cell?_alloc_past, World.cell?_setCell_far, *]; done)))
              try simp only [skipL, skipA, List.foldl, Act.put, List.setIfInBounds_toArray, List.set_cons_zero, List.set_cons_succ]
              refine take_at (i := 8) (d := some 46) (v := .bool true) rfl rfl (by kernel_rfl) (by kernel_rfl) (by kernel_rfl) (fun _ _ _ h => h) (Or.inl ⟨by rfl, (by intro w9 hSw; (try dsimp only at hSw); go_simp)⟩) hHeld ?_
              try simp only [skipL, skipA, List.foldl, Act.put, List.setIfInBounds_toArray, List.set_cons_zero, List.set_cons_succ]
              refine take_at (i := 9) (d := some 47) (v := .bool true) rfl rfl (by kernel_rfl) (by kernel_rfl) (by kernel_rfl) (fun _ _ _ h => h) (Or.inl ⟨by rfl, (by intro w9 hSw; (try dsimp only at hSw); go_simp)⟩) hHeld ?_
              try simp only [skipL, skipA, List.foldl, Act.put, List.setIfInBounds_toArray, List.set_cons_zero, List.set_cons_succ]
              refine take_at (i := 10) (d := some 48) (v := .pointer (some ⟨w.heap.size + 1, 0, none⟩)) rfl rfl (by kernel_rfl) (by kernel_rfl) (by kernel_rfl) (fun _ _ _ h => h) (Or.inl ⟨by kernel_rfl, (by intro w9 hSw; (try dsimp only at hSw); go_simp)⟩) hHeld ?_
              try simp only [skipL, skipA, List.foldl, Act.put, List.setIfInBounds_toArray, List.set_cons_zero, List.set_cons_succ]
              refine take_at (i := 11) (d := some 49) (v := .int .i64 a) rfl rfl (by kernel_rfl) (by kernel_rfl) (by kernel_rfl) (fun _ _ _ h => h) (Or.inl ⟨by kernel_rfl, (by intro w9 hSw; (try dsimp only at hSw); go_simp)⟩) hHeld ?_
              try simp only [skipL, skipA, List.foldl, Act.put, List.setIfInBounds_toArray, List.set_cons_zero, List.set_cons_succ]
              refine take_at (i := 12) (d := some 50) (v := .int .i64 G) rfl rfl (by kernel_rfl) (by kernel_rfl) (by kernel_rfl) (fun _ _ _ h => h) (Or.inl ⟨by kernel_rfl, (by intro w9 hSw; (try dsimp only at hSw); go_simp)⟩) hHeld ?_
              try simp only [skipL, skipA, List.foldl, Act.put, List.setIfInBounds_toArray, List.set_cons_zero, List.set_cons_succ]
              refine take_at (i := 13) (d := some 51) (v := .bool true) rfl rfl (by kernel_rfl) (by kernel_rfl) (by kernel_rfl) (fun _ _ _ h => h) (Or.inl ⟨by kernel_rfl, (by intro w9 hSw; (try dsimp only at hSw); go_simp)⟩) hHeld ?_
              try simp only [skipL, skipA, List.foldl, Act.put, List.setIfInBounds_toArray, List.set_cons_zero, List.set_cons_succ]
              refine take_at (i := 14) (d := some 52) (v := .bool true) rfl rfl (by kernel_rfl) (by kernel_rfl) (by kernel_rfl) (fun _ _ _ h => h) (Or.inl ⟨by rfl, (by intro w9 hSw; (try dsimp only at hSw); go_simp)⟩) hHeld ?_
              try simp only [skipL, skipA, List.foldl, Act.put, List.setIfInBounds_toArray, List.set_cons_zero, List.set_cons_succ]
              refine take_at (i := 15) (d := some 53) (v := .bool true) rfl rfl (by kernel_rfl) (by kernel_rfl) (by kernel_rfl) (fun _ _ _ h => h) (Or.inl ⟨by rfl, (by intro w9 hSw; (try dsimp only at hSw); go_simp)⟩) hHeld ?_
              try simp only [skipL, skipA, List.foldl, Act.put, List.setIfInBounds_toArray, List.set_cons_zero, List.set_cons_succ]
              refine take_at (i := 16) (d := some 54) (v := .pointer (some ⟨w.heap.size + 1, 1, none⟩)) rfl rfl (by kernel_rfl) (by kernel_rfl) (by kernel_rfl) (fun _ _ _ h => h) (Or.inl ⟨by kernel_rfl, (by intro w9 hSw; (try dsimp only at hSw); go_simp)⟩) hHeld ?_
              try simp only [skipL, skipA, List.foldl, Act.put, List.setIfInBounds_toArray, List.set_cons_zero, List.set_cons_succ]
              refine take_at (i := 17) (d := some 55) (v := .int .i64 b) rfl rfl (by kernel_rfl) (by kernel_rfl) (by kernel_rfl) (fun _ _ _ h => h) (Or.inl ⟨by kernel_rfl, (by intro w9 hSw; (try dsimp only at hSw); go_simp)⟩) hHeld ?_
              try simp only [skipL, skipA, List.foldl, Act.put, List.setIfInBounds_toArray, List.set_cons_zero, List.set_cons_succ]
              refine take_at (i := 18) (d := some 56) (v := fmt e f) rfl rfl (by kernel_rfl) (by kernel_rfl) (by kernel_rfl) (fun _ _ _ h => h) (Or.inl ⟨by kernel_rfl, (by intro w9 hSw; (try dsimp only at hSw); go_simp)⟩) hHeld ?_
              try simp only [skipL, skipA, List.foldl, Act.put, List.setIfInBounds_toArray, List.set_cons_zero, List.set_cons_succ]
              refine take_at (i := 19) (d := some 57) (v := .int .i64 G) rfl rfl (by kernel_rfl) (by kernel_rfl) (by kernel_rfl) (fun _ _ _ h => h) (Or.inl ⟨by kernel_rfl, (by intro w9 hSw; (try dsimp only at hSw); go_simp)⟩) hHeld ?_
              try simp only [skipL, skipA, List.foldl, Act.put, List.setIfInBounds_toArray, List.set_cons_zero, List.set_cons_succ]
              refine wpAnyH_ready (rs := [20]) (by kernel_rfl) (by simp) ?_
              refine (AllReadyH.cons rfl (fun K hK => ?_) AllReadyH.nil)
              · go_simp
                (go_at_call 67; refine (NG.out _).mono ?_; rintro rv w1 ⟨rfl, hb⟩; have ns : w.heap.size + 1 < w1.heap.size := hb.ltK; have n0 : w1.cell? ⟨w.heap.size, 0, none⟩ = some (.int .i64 e) := hb.cellK; have n1 : w1.cell? ⟨w.heap.size, 1, none⟩ = some (.int .i64 f) := hb.cellK; have n2 : w1.cell? ⟨w.heap.size + 1, 0, none⟩ = some (.int .i64 a) := hb.cellK; have n3 : w1.cell? ⟨w.heap.size + 1, 1, none⟩ = some (.int .i64 b) := hb.cellK; (first | (have nx := hx.trK hb; clear hx) | have nx := hb); clear hb; try clear hs; try clear g0; try clear g1; try clear g2; try clear g3; have hx := nx; clear nx; have hs := ns; clear ns; have g0 := n0; clear n0; have g1 := n1; clear n1; have g2 := n2; clear n2; have g3 := n3; clear n3)
                dsimp only
                refine hK.out _ _ ?_ (fun hHeld => ?_)
                · ((refine ⟨?_, ?_, ?_, ?_, ?_⟩ <;> first | with_reducible assumption | ((repeat first | rw [cell_set_far _ _ _ _ _ _ (by omega)] | rw [cell_alloc_before _ _ _ _ (by omega)] | rw [cell_alloc_drew _ _ _ _ (by omega)] | rw [cell_drew]); with_reducible assumption) | ((rw [cell_setRow_far _ _ _ _ _ (by omega)]); with_reducible assumption) | ((rw [setRow_size]); with_reducible assumption) | (simp; done) | (simp [World.setCell]; first | done | omega) | (simp [go_sem, World.cell?_alloc_past, World.cell?_setCell_far, *]; done)))
                try simp only [skipL, skipA, List.foldl, Act.put, List.setIfInBounds_toArray, List.set_cons_zero, List.set_cons_succ]
                refine take_at (i := 21) (d := some 59) (v := .bool (b != M)) rfl rfl (by kernel_rfl) (by kernel_rfl) (by kernel_rfl) (fun _ _ _ h => h) (Or.inl ⟨by kernel_rfl, (by intro w9 hSw; (try dsimp only at hSw); go_simp)⟩) hHeld ?_
                try simp only [skipL, skipA, List.foldl, Act.put, List.setIfInBounds_toArray, List.set_cons_zero, List.set_cons_succ]
                refine take_at (i := 22) (d := some 60) (v := .bool (b != M)) rfl rfl (by kernel_rfl) (by kernel_rfl) (by kernel_rfl) (fun _ _ _ h => h) (Or.inl ⟨by rfl, (by intro w9 hSw; (try dsimp only at hSw); go_simp)⟩) hHeld ?_
                try simp only [skipL, skipA, List.foldl, Act.put, List.setIfInBounds_toArray, List.set_cons_zero, List.set_cons_succ]
                refine take_at (i := 23) (d := some 4) (v := .bool (b != M)) rfl rfl (by kernel_rfl) (by kernel_rfl) (by kernel_rfl) (fun _ _ _ h => h) (Or.inl ⟨by rfl, (by intro w9 hSw; (try dsimp only at hSw); go_simp)⟩) hHeld ?_
                try simp only [skipL, skipA, List.foldl, Act.put, List.setIfInBounds_toArray, List.set_cons_zero, List.set_cons_succ]
                refine wpAnyH_done (by kernel_rfl) ?_ _
                go_wp2_with fail
                go_ret
                exact ⟨rfl, Ext.auK⟩

theorem ivGood_any (e f a b : Int) (w : World) : Calls Tryz.prog 50 #[fmt e f, two a b] w fun rv w' => rv = .returned (.bool (ivB e f a b)) ∧ Ext w w' := by
  cases na : numB e f a
  · rw [iv_low (en_no na)]; exact ivGood_a e f a b na w
  · cases nb : numB e f b
    · rw [iv_high (en_no nb)]; exact ivGood_b e f a b na nb w
    · cases ha : enB e f a
      · rw [iv_low ha]; exact ivGood_c e f a b na nb ha w
      · cases hb : enB e f b
        · rw [iv_high hb]; exact ivGood_d e f a b na nb ha hb w
        · rw [iv_model ha hb]
          by_cases hle : ikV e f a ≤ ikV e f b
          · rw [decide_eq_true hle, Bool.true_and]
            by_cases hne : a = inV e f
            · have q : (a == inV e f) = true := by simpa using hne
              rw [q]; exact ivGood_f e f a b ha hb hle hne w
            · have q : (a == inV e f) = false := by simpa using hne
              rw [q]; exact ivGood_g e f a b ha hb hle hne w
          · rw [decide_eq_false hle, Bool.false_and]; exact ivGood_e e f a b ha hb hle w
end Go.Proofs.YtfgbndjhaiigbaaGreatDoor

namespace Go.Proofs.YtfgbndjhaiigbaaGreatDoor
open Go Go.RowKit
set_option linter.unusedSimpArgs false
set_option linter.unusedVariables false
set_option maxRecDepth 100000

theorem ivBoth_any (e f a b c d : Int) (w : World) : Calls Tryz.prog 44 #[fmt e f, two a b, two c d] w fun rv w' => rv = .returned (.bool (ivB e f a b && ivB e f c d)) ∧ Ext w w' := by
  have IA := Lib.hid (fun w => ivGood_any e f a b w)
  have IC := Lib.hid (fun w => ivGood_any e f c d w)
  generalize ivB e f c d = D at *
  cases ha : ivB e f a b
  all_goals
    rw [ha] at IA
    clear ha
    go_enter Tryz.func44, Tryz.ntmps44
    go_wp2_with (first | (go_at_call 50; (with_reducible refine (IA.out _).mono ?_); rintro rv w1 ⟨rfl, hb⟩; have ns : w.heap.size + 2 < w1.heap.size := hb.ltK; have n0 : w1.cell? ⟨w.heap.size, 0, none⟩ = some (.int .i64 e) := hb.cellK; have n1 : w1.cell? ⟨w.heap.size, 1, none⟩ = some (.int .i64 f) := hb.cellK; have n2 : w1.cell? ⟨w.heap.size + 1, 0, none⟩ = some (.int .i64 a) := hb.cellK; have n3 : w1.cell? ⟨w.heap.size + 1, 1, none⟩ = some (.int .i64 b) := hb.cellK; have n4 : w1.cell? ⟨w.heap.size + 2, 0, none⟩ = some (.int .i64 c) := hb.cellK; have n5 : w1.cell? ⟨w.heap.size + 2, 1, none⟩ = some (.int .i64 d) := hb.cellK; (first | (have nx := hx.trK hb; clear hx) | have nx := hb); clear hb; try clear hs; try clear g0; try clear g1; try clear g2; try clear g3; try clear g4; try clear g5; have hx := nx; clear nx; have hs := ns; clear ns; have g0 := n0; clear n0; have g1 := n1; clear n1; have g2 := n2; clear n2; have g3 := n3; clear n3; have g4 := n4; clear n4; have g5 := n5; clear n5) | (go_at_call 50; (with_reducible refine (IC.out _).mono ?_); rintro rv w1 ⟨rfl, hb⟩; have ns : w.heap.size + 2 < w1.heap.size := hb.ltK; have n0 : w1.cell? ⟨w.heap.size, 0, none⟩ = some (.int .i64 e) := hb.cellK; have n1 : w1.cell? ⟨w.heap.size, 1, none⟩ = some (.int .i64 f) := hb.cellK; have n2 : w1.cell? ⟨w.heap.size + 1, 0, none⟩ = some (.int .i64 a) := hb.cellK; have n3 : w1.cell? ⟨w.heap.size + 1, 1, none⟩ = some (.int .i64 b) := hb.cellK; have n4 : w1.cell? ⟨w.heap.size + 2, 0, none⟩ = some (.int .i64 c) := hb.cellK; have n5 : w1.cell? ⟨w.heap.size + 2, 1, none⟩ = some (.int .i64 d) := hb.cellK; (first | (have nx := hx.trK hb; clear hx) | have nx := hb); clear hb; try clear hs; try clear g0; try clear g1; try clear g2; try clear g3; try clear g4; try clear g5; have hx := nx; clear nx; have hs := ns; clear ns; have g0 := n0; clear n0; have g1 := n1; clear n1; have g2 := n2; clear n2; have g3 := n3; clear n3; have g4 := n4; clear n4; have g5 := n5; clear n5))
    go_ret
    exact ⟨by first | rfl | (simp; done), Ext.auK⟩

set_option maxHeartbeats 1600000 in
theorem ivOf_any (e f p q : Int) (hp : patB e f p = true) (hq : patB e f q = true) (w : World) : Calls Tryz.prog 52 #[fmt e f, .int .i64 p, .int .i64 q] w fun rv w' => rv = .returned (two (izV e f p) (izV e f q)) ∧ Ext w w' := by
  have EP := Lib.hid (fun w => ivZero_any e f p hp w)
  have EQ := Lib.hid (fun w => ivZero_any e f q hq w)
  have bu : ∀ (u v : Int) w, (Instr.build 26 #[(0, .int .i64 u), (1, .int .i64 v)]).run Tryz.prog w = .ok (two u v) w := fun u v w => run_build w _ _ _ (by kernel_rfl)
  clear hp hq
  generalize izV e f p = u at *
  generalize izV e f q = v at *
  go_enter Tryz.func52, Tryz.ntmps52
  go_wp2_with fail
  go_region_held3 (fun w' => w'.cell? ⟨w.heap.size, 0, none⟩ = some (.int .i64 e) ∧ w'.cell? ⟨w.heap.size, 1, none⟩ = some (.int .i64 f) ∧ w.heap.size + 1 < w'.heap.size) ((refine ⟨?_, ?_, ?_⟩ <;> first | with_reducible assumption | ((repeat first | rw [cell_set_far _ _ _ _ _ _ (by omega)] | rw [cell_alloc_before _ _ _ _ (by omega)] | rw [cell_alloc_drew _ _ _ _ (by omega)] | rw [cell_drew]); with_reducible assumption) | ((rw [cell_setRow_far _ _ _ _ _ (by omega)]); with_reducible assumption) | ((rw [setRow_size]); with_reducible assumption) | (simp; done) | (simp [World.setCell]; first | done | omega) | (simp [go_sem, World.cell?_alloc_past, World.cell?_setCell_far, *]; done))) ((first | (go_at_call 96; (with_reducible refine (EP.out _).mono ?_); rintro rv w1 ⟨rfl, hb⟩; have ns : w.heap.size + 1 < w1.heap.size := hb.ltK; have n0 : w1.cell? ⟨w.heap.size, 0, none⟩ = some (.int .i64 e) := hb.cellK; have n1 : w1.cell? ⟨w.heap.size, 1, none⟩ = some (.int .i64 f) := hb.cellK; have n2 : w1.cell? ⟨w.heap.size + 1, 0, none⟩ = some (.int .i64 0) := hb.cellK; have n3 : w1.cell? ⟨w.heap.size + 1, 1, none⟩ = some (.int .i64 0) := hb.cellK; have nz0 : w1.frozen? ⟨w.heap.size + 1, 0, none⟩ = false := hb.frzK; have nz1 : w1.frozen? ⟨w.heap.size + 1, 1, none⟩ = false := hb.frzK; (first | (have nx := hx.trK hb; clear hx) | have nx := hb); clear hb; try clear hs; try clear g0; try clear g1; try clear g2; try clear g3; try clear z0; try clear z1; have hx := nx; clear nx; have hs := ns; clear ns; have g0 := n0; clear n0; have g1 := n1; clear n1; have g2 := n2; clear n2; have g3 := n3; clear n3; have z0 := nz0; clear nz0; have z1 := nz1; clear nz1) | (go_at_call 96; (with_reducible refine (EQ.out _).mono ?_); rintro rv w1 ⟨rfl, hb⟩; have ns : w.heap.size + 1 < w1.heap.size := hb.ltK; have n0 : w1.cell? ⟨w.heap.size, 0, none⟩ = some (.int .i64 e) := hb.cellK; have n1 : w1.cell? ⟨w.heap.size, 1, none⟩ = some (.int .i64 f) := hb.cellK; have n2 : w1.cell? ⟨w.heap.size + 1, 0, none⟩ = some (.int .i64 0) := hb.cellK; have n3 : w1.cell? ⟨w.heap.size + 1, 1, none⟩ = some (.int .i64 0) := hb.cellK; have nz0 : w1.frozen? ⟨w.heap.size + 1, 0, none⟩ = false := hb.frzK; have nz1 : w1.frozen? ⟨w.heap.size + 1, 1, none⟩ = false := hb.frzK; (first | (have nx := hx.trK hb; clear hx) | have nx := hb); clear hb; try clear hs; try clear g0; try clear g1; try clear g2; try clear g3; try clear z0; try clear z1; have hx := nx; clear nx; have hs := ns; clear ns; have g0 := n0; clear n0; have g1 := n1; clear n1; have g2 := n2; clear n2; have g3 := n3; clear n3; have z0 := nz0; clear nz0; have z1 := nz1; clear nz1)))
  all_goals go_wp2_with fail
  all_goals exact bodyPost_ret (v := two u v) (by simp [results, Tryz.results52, go_sem, *]) rfl ⟨rfl, Ext.auK⟩

/-- The first pattern's value is less than the second's. -/
def lsB (e f p q : Int) : Bool := decide (ikV e f (izV e f p) < ikV e f (izV e f q))

set_option maxHeartbeats 3200000 in
theorem ivLess_any (e f p q : Int) (hp : patB e f p = true) (hq : patB e f q = true) (w : World) : Calls Tryz.prog 51 #[fmt e f, .int .i64 p, .int .i64 q] w fun rv w' => rv = .returned (.bool (lsB e f p q)) ∧ Ext w w' := by
  have EP := Lib.hid (fun w => ivZero_any e f p hp w)
  have EQ := Lib.hid (fun w => ivZero_any e f q hq w)
  have KP : RowKit.Hid (∀ w, Calls Tryz.prog 98 #[fmt e f, .int .i64 (izV e f p)] w fun rv w' => rv = .returned (.int .i64 (ikV e f (izV e f p))) ∧ Ext w w') := Lib.hid (fun w => fmKey_any e f _ (pat_iz hp) w)
  have KQ : RowKit.Hid (∀ w, Calls Tryz.prog 98 #[fmt e f, .int .i64 (izV e f q)] w fun rv w' => rv = .returned (.int .i64 (ikV e f (izV e f q))) ∧ Ext w w') := Lib.hid (fun w => fmKey_any e f _ (pat_iz hq) w)
  clear hp hq
  unfold lsB
  generalize ikV e f (izV e f p) = kp at *
  generalize ikV e f (izV e f q) = kq at *
  generalize izV e f p = u at *
  generalize izV e f q = v at *
  go_enter Tryz.func51, Tryz.ntmps51
  go_wp2_with fail
  go_region_held3 (fun w' => w'.cell? ⟨w.heap.size, 0, none⟩ = some (.int .i64 e) ∧ w'.cell? ⟨w.heap.size, 1, none⟩ = some (.int .i64 f) ∧ w.heap.size < w'.heap.size) ((refine ⟨?_, ?_, ?_⟩ <;> first | with_reducible assumption | ((repeat first | rw [cell_set_far _ _ _ _ _ _ (by omega)] | rw [cell_alloc_before _ _ _ _ (by omega)] | rw [cell_alloc_drew _ _ _ _ (by omega)] | rw [cell_drew]); with_reducible assumption) | ((rw [cell_setRow_far _ _ _ _ _ (by omega)]); with_reducible assumption) | ((rw [setRow_size]); with_reducible assumption) | (simp; done) | (simp [World.setCell]; first | done | omega) | (simp [go_sem, World.cell?_alloc_past, World.cell?_setCell_far, *]; done))) ((first | (go_at_call 96; (with_reducible refine (EP.out _).mono ?_); rintro rv w1 ⟨rfl, hb⟩; have ns : w.heap.size < w1.heap.size := hb.ltK; have n0 : w1.cell? ⟨w.heap.size, 0, none⟩ = some (.int .i64 e) := hb.cellK; have n1 : w1.cell? ⟨w.heap.size, 1, none⟩ = some (.int .i64 f) := hb.cellK; (first | (have nx := hx.trK hb; clear hx) | have nx := hb); clear hb; try clear hs; try clear g0; try clear g1; have hx := nx; clear nx; have hs := ns; clear ns; have g0 := n0; clear n0; have g1 := n1; clear n1) | (go_at_call 96; (with_reducible refine (EQ.out _).mono ?_); rintro rv w1 ⟨rfl, hb⟩; have ns : w.heap.size < w1.heap.size := hb.ltK; have n0 : w1.cell? ⟨w.heap.size, 0, none⟩ = some (.int .i64 e) := hb.cellK; have n1 : w1.cell? ⟨w.heap.size, 1, none⟩ = some (.int .i64 f) := hb.cellK; (first | (have nx := hx.trK hb; clear hx) | have nx := hb); clear hb; try clear hs; try clear g0; try clear g1; have hx := nx; clear nx; have hs := ns; clear ns; have g0 := n0; clear n0; have g1 := n1; clear n1) | (go_at_call 98; (with_reducible refine (KP.out _).mono ?_); rintro rv w1 ⟨rfl, hb⟩; have ns : w.heap.size < w1.heap.size := hb.ltK; have n0 : w1.cell? ⟨w.heap.size, 0, none⟩ = some (.int .i64 e) := hb.cellK; have n1 : w1.cell? ⟨w.heap.size, 1, none⟩ = some (.int .i64 f) := hb.cellK; (first | (have nx := hx.trK hb; clear hx) | have nx := hb); clear hb; try clear hs; try clear g0; try clear g1; have hx := nx; clear nx; have hs := ns; clear ns; have g0 := n0; clear n0; have g1 := n1; clear n1) | (go_at_call 98; (with_reducible refine (KQ.out _).mono ?_); rintro rv w1 ⟨rfl, hb⟩; have ns : w.heap.size < w1.heap.size := hb.ltK; have n0 : w1.cell? ⟨w.heap.size, 0, none⟩ = some (.int .i64 e) := hb.cellK; have n1 : w1.cell? ⟨w.heap.size, 1, none⟩ = some (.int .i64 f) := hb.cellK; (first | (have nx := hx.trK hb; clear hx) | have nx := hb); clear hb; try clear hs; try clear g0; try clear g1; have hx := nx; clear nx; have hs := ns; clear ns; have g0 := n0; clear n0; have g1 := n1; clear n1)))
  all_goals go_wp2_with fail
  all_goals go_ret
  all_goals exact ⟨rfl, Ext.auK⟩

theorem ivHas_any (e f a b p : Int) (ha : patB e f a = true) (hb : patB e f b = true) (hp : patB e f p = true) (w : World) : Calls Tryz.prog 48 #[fmt e f, two a b, .int .i64 p] w fun rv w' => rv = .returned (.bool (!lsB e f p a && !lsB e f b p)) ∧ Ext w w' := by
  have LA := Lib.hid (fun w => ivLess_any e f p a hp ha w)
  have LB := Lib.hid (fun w => ivLess_any e f b p hb hp w)
  clear ha hb hp
  generalize lsB e f b p = D at *
  cases h0 : lsB e f p a
  all_goals
    rw [h0] at LA
    clear h0
    go_enter Tryz.func48, Tryz.ntmps48
    go_wp2_with (first | (go_at_call 51; (with_reducible refine (LA.out _).mono ?_); rintro rv w1 ⟨rfl, hb⟩; have ns : w.heap.size + 1 < w1.heap.size := hb.ltK; have n0 : w1.cell? ⟨w.heap.size, 0, none⟩ = some (.int .i64 e) := hb.cellK; have n1 : w1.cell? ⟨w.heap.size, 1, none⟩ = some (.int .i64 f) := hb.cellK; have n2 : w1.cell? ⟨w.heap.size + 1, 0, none⟩ = some (.int .i64 a) := hb.cellK; have n3 : w1.cell? ⟨w.heap.size + 1, 1, none⟩ = some (.int .i64 b) := hb.cellK; (first | (have nx := hx.trK hb; clear hx) | have nx := hb); clear hb; try clear hs; try clear g0; try clear g1; try clear g2; try clear g3; have hx := nx; clear nx; have hs := ns; clear ns; have g0 := n0; clear n0; have g1 := n1; clear n1; have g2 := n2; clear n2; have g3 := n3; clear n3) | (go_at_call 51; (with_reducible refine (LB.out _).mono ?_); rintro rv w1 ⟨rfl, hb⟩; have ns : w.heap.size + 1 < w1.heap.size := hb.ltK; have n0 : w1.cell? ⟨w.heap.size, 0, none⟩ = some (.int .i64 e) := hb.cellK; have n1 : w1.cell? ⟨w.heap.size, 1, none⟩ = some (.int .i64 f) := hb.cellK; have n2 : w1.cell? ⟨w.heap.size + 1, 0, none⟩ = some (.int .i64 a) := hb.cellK; have n3 : w1.cell? ⟨w.heap.size + 1, 1, none⟩ = some (.int .i64 b) := hb.cellK; (first | (have nx := hx.trK hb; clear hx) | have nx := hb); clear hb; try clear hs; try clear g0; try clear g1; try clear g2; try clear g3; have hx := nx; clear nx; have hs := ns; clear ns; have g0 := n0; clear n0; have g1 := n1; clear n1; have g2 := n2; clear n2; have g3 := n3; clear n3))
    go_ret
    exact ⟨by first | rfl | (simp; done), Ext.auK⟩

theorem fin_num {e f p : Int} (hg : finB e f p = true) : numB e f p = true := num_mag.2 ⟨(fin_mag2.1 hg).1, Int.le_of_lt (fin_mag2.1 hg).2⟩
end Go.Proofs.YtfgbndjhaiigbaaGreatDoor

namespace Go.Proofs.YtfgbndjhaiigbaaGreatDoor
open Go Go.RowKit
set_option linter.unusedSimpArgs false
set_option linter.unusedVariables false
set_option maxRecDepth 100000

theorem toInterval_any (n d : Int) (w : World) : Calls Tryz.prog 17 #[two n d] w fun rv w' => rv = .returned (two n d) ∧ Ext w w' := by
  go_enter Tryz.func17, Tryz.ntmps17
  go_wp2
  exact bodyPost_ret (v := two n d) (by simp [results, Tryz.results17, go_sem]) rfl ⟨rfl, ((Ext.new _ _).alloc _).alloc _⟩

theorem eqInterval_same (n d : Int) (w : World) : Calls Tryz.prog 19 #[two n d, two n d] w fun rv w' => rv = .returned (.bool true) ∧ Ext w w' := by
  go_enter Tryz.func19, Tryz.ntmps19
  go_wp2
  go_ret
  exact ⟨rfl, Ext.auK⟩
end Go.Proofs.YtfgbndjhaiigbaaGreatDoor

