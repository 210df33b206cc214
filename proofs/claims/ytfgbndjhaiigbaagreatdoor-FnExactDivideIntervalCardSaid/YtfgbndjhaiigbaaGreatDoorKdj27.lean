/-
  Contracts of the functions that the laws reach, and the plain facts that they rest on, each under the conditions that its line names; part 27.
-/
import Derived.Test.YtfgbndjhaiigbaaGreatDoorKdj1
import Derived.Test.YtfgbndjhaiigbaaGreatDoorKdj2
import Derived.Test.YtfgbndjhaiigbaaGreatDoorKdj3
import Derived.Test.YtfgbndjhaiigbaaGreatDoorKdj4
import Derived.Test.YtfgbndjhaiigbaaGreatDoorKdj5
import Derived.Test.YtfgbndjhaiigbaaGreatDoorKdj6
import Derived.Test.YtfgbndjhaiigbaaGreatDoorKdj7
import Derived.Test.YtfgbndjhaiigbaaGreatDoorKdj8
import Derived.Test.YtfgbndjhaiigbaaGreatDoorKdj9
import Derived.Test.YtfgbndjhaiigbaaGreatDoorKdj10
import Derived.Test.YtfgbndjhaiigbaaGreatDoorKdj11
import Derived.Test.YtfgbndjhaiigbaaGreatDoorKdj12
import Derived.Test.YtfgbndjhaiigbaaGreatDoorKdj13
import Derived.Test.YtfgbndjhaiigbaaGreatDoorKdj14
import Derived.Test.YtfgbndjhaiigbaaGreatDoorKdj15
import Derived.Test.YtfgbndjhaiigbaaGreatDoorKdj16
import Derived.Test.YtfgbndjhaiigbaaGreatDoorKdj17
import Derived.Test.YtfgbndjhaiigbaaGreatDoorKdj18
import Derived.Test.YtfgbndjhaiigbaaGreatDoorKdj19
import Derived.Test.YtfgbndjhaiigbaaGreatDoorKdj20
import Derived.Test.YtfgbndjhaiigbaaGreatDoorKdj21
import Derived.Test.YtfgbndjhaiigbaaGreatDoorKdj22
import Derived.Test.YtfgbndjhaiigbaaGreatDoorKdj23
import Derived.Test.YtfgbndjhaiigbaaGreatDoorKdj24
import Derived.Test.YtfgbndjhaiigbaaGreatDoorKdj25
import Derived.Test.YtfgbndjhaiigbaaGreatDoorKdj26
import Derived.Test.YtfgbndjhaiigbaaGreatDoorRows
import Derived.WalkKit
import Derived.LoopTactic
import Derived.LoopN
import Derived.Laws.OwnMore
import Derived.OwnWalk
import Derived.Laws.Bits64b
import Derived.WalkSpells
import Derived.WalkLawsBesides
import Derived.StillTactics
import Derived.Laws.Pointers
import Derived.Deep.RegionHeld3
import Derived.Deep.QuietTactic
import Derived.BigQuiet
import Derived.Outline
import Derived.Lib.Hide
import Derived.RowKit3
import Derived.Carry
import Derived.IntWalk
namespace Go.Proofs.YtfgbndjhaiigbaaGreatDoor
open Go Go.RowKit
set_option linter.unusedSimpArgs false
set_option linter.unusedVariables false

/-- The operand that a pattern stands for: its type, and what it holds. -/
def opT (e f p : Int) : TypeId := if finB e f p = true then 82 else if numB e f p = true then 104 else 107

def opX (e f p : Int) : Value := if finB e f p = true then (.agg #[.int .i64 (p / pw (e + f)), .int .i64 (((odV (unitsV e f p)).natAbs : Int)), .int .i64 (shE (unitsV e f p) (unV e f))]) else if numB e f p = true then (.agg #[.int .i64 (p / pw (e + f))]) else .agg #[]

theorem operandOf_any (e f p : Int) (hp : patB e f p = true) (w : World) (hT : TW w) : Calls Tryz.prog 120 #[fmt e f, .int .i64 p] w fun rv w' => rv = .returned (.iface (opT e f p) (opX e f p)) ∧ Ext w w' := by
  unfold opT opX
  cases hf : finB e f p
  · cases hn : numB e f p
    · exact operandOf_no e f p hp hn w
    · exact operandOf_inf e f p hp hf hn w
  · exact operandOf_fin e f p hf w hT

theorem own_ext {w w' : World} {base : Nat} {e : TypeId} {size : Nat} {v : Value} {n : Nat} {xs : List Value} (h : w.ownsRow base e size v n xs) (hb : Ext w w') : w'.ownsRow base e size v n xs :=
  h.kept (row := none) ⟨hb.os, hb.tape, hb.output, hb.size, fun k hk _ => hb.block k hk⟩ (by by_cases h : v.ownBlock = none; exact Or.inl h; exact Or.inr h)

theorem ext_grown {w W w' : World} {row : Option Nat} (hx : Ext w W) (hg : W.grownBy w' row) (hr : ∀ k, row = some k → w.heap.size ≤ k) : Ext w w' :=
  ⟨hg.os.trans hx.os, hg.tape.trans hx.tape, hg.output.trans hx.output, Nat.le_trans hx.size hg.size, fun k hk => (hg.block k (Nat.lt_of_lt_of_le hk hx.size) (fun h => by have := hr k h.symm; omega)).trans (hx.block k hk)⟩

set_option maxRecDepth 100000 in
set_option maxHeartbeats 3200000 in
theorem operandsOf2 (e f m a b : Int) (g : Nat) (hm : moB m = true) (ha : patB e f a = true) (hb2 : patB e f b = true) (w : World) (hT : TW w)
    (ca : w.cell? ⟨g, 0, none⟩ = some (.int .i64 a)) (cb : w.cell? ⟨g, 1, none⟩ = some (.int .i64 b)) (hg : g < w.heap.size) :
    Calls Tryz.prog 73 #[fmt e f, .int .i64 m, .slice (some ⟨g, 0, none⟩) 2 2] w fun rv w' => ∃ v, rv = .returned (.tuple #[v, .bool true]) ∧ w'.ownsRow (w.heap.size + 1) 67 1 v 2 [.iface (opT e f a) (opX e f a), .iface (opT e f b) (opX e f b)] ∧ Ext w w' := by
  obtain ⟨i, hi, hz, hsz, hby⟩ : ∃ i, Tryz.prog.info? 67 = some i ∧ i.zero = some Value.nilIface ∧ i.size = 1 ∧ i.bytes = 16 := by
    cases h : Tryz.prog.info? 67 with
    | none => exact absurd h (by have : (Tryz.prog.info? 67).isSome = true := by kernel_rfl
                                 intro h2; rw [h2] at this; cases this)
    | some i =>
      refine ⟨i, rfl, ?_, ?_, ?_⟩
      · have : (Tryz.prog.info? 67).map (·.zero) = some (some Value.nilIface) := by kernel_rfl
        rw [h] at this; exact Option.some.inj this
      · have : (Tryz.prog.info? 67).map (·.size) = some 1 := by kernel_rfl
        rw [h] at this; exact Option.some.inj this
      · have : (Tryz.prog.info? 67).map (·.bytes) = some 16 := by kernel_rfl
        rw [h] at this; exact Option.some.inj this
  have HI := Lib.hid hi; have HZ := Lib.hid hz; have HSZ := Lib.hid hsz; have HBY := Lib.hid hby; clear hi hz hsz hby
  go_enter Tryz.func73, Tryz.ntmps73
  go_wp2_with (go_at_call 119; refine (isMode_any _ _).mono ?_; rintro rv w1 ⟨rfl, rfl⟩)
  have own0 := (World.ownsRow_lit (base := w.heap.size + 1) (e := 67) (size := 1) (w.alloc (.cells #[.int .i64 e, .int .i64 f] 29)) #[] 0 (by simp) (by decide) rfl)
  rw [World.size_alloc] at own0
  have OWN := Lib.hid own0; clear own0
  refine wp_loop_rounds 3 ?_
  rw [rounds_succ]
  go_wp2_with (first | (go_at_call 115; refine (isPattern_any e f _ _).mono ?_; rintro rv w1 ⟨rfl, hb⟩; (first | (have OWN9 := Lib.hid (own_ext OWN.out hb); clear OWN; have OWN := OWN9; clear OWN9) | (have OWN9 := Lib.hid (own_ext (own_ext OWN.out (Ext.new _ _)) hb); clear OWN; have OWN := OWN9; clear OWN9)); have ns : max w.heap.size g < w1.heap.size := hb.ltK; have n0 : w1.cell? ⟨w.heap.size, 0, none⟩ = some (.int .i64 e) := hb.cellK; have n1 : w1.cell? ⟨w.heap.size, 1, none⟩ = some (.int .i64 f) := hb.cellK; have n2 : w1.cell? ⟨g, 0, none⟩ = some (.int .i64 a) := hb.cellK; have n3 : w1.cell? ⟨g, 1, none⟩ = some (.int .i64 b) := hb.cellK; (first | (have nx := hx.trK hb; clear hx) | have nx := hb); clear hb; try clear hs; try clear g0; try clear g1; try clear g2; try clear g3; have hx := nx; clear nx; have hs := ns; clear ns; have g0 := n0; clear n0; have g1 := n1; clear n1; have g2 := n2; clear n2; have g3 := n3; clear n3) | (go_at_call 120; (with_reducible refine (operandOf_any e f a ha _ (hT.ext Ext.auK)).mono ?_); rintro rv w1 ⟨rfl, hb⟩; (first | (have OWN9 := Lib.hid (own_ext OWN.out hb); clear OWN; have OWN := OWN9; clear OWN9) | (have OWN9 := Lib.hid (own_ext (own_ext OWN.out (Ext.new _ _)) hb); clear OWN; have OWN := OWN9; clear OWN9)); have ns : max w.heap.size g < w1.heap.size := hb.ltK; have n0 : w1.cell? ⟨w.heap.size, 0, none⟩ = some (.int .i64 e) := hb.cellK; have n1 : w1.cell? ⟨w.heap.size, 1, none⟩ = some (.int .i64 f) := hb.cellK; have n2 : w1.cell? ⟨g, 0, none⟩ = some (.int .i64 a) := hb.cellK; have n3 : w1.cell? ⟨g, 1, none⟩ = some (.int .i64 b) := hb.cellK; (first | (have nx := hx.trK hb; clear hx) | have nx := hb); clear hb; try clear hs; try clear g0; try clear g1; try clear g2; try clear g3; have hx := nx; clear nx; have hs := ns; clear ns; have g0 := n0; clear n0; have g1 := n1; clear n1; have g2 := n2; clear n2; have g3 := n3; clear n3) | (at_builtin; (refine wpList_append_own _ rfl (.tmp 25) (.tmp 29) 71 rfl (w.heap.size + 1) 67 i _ 1 16 Tryz.underlying71 HI.out HZ.out HSZ.out HBY.out rfl (by decide) (.slice (some ⟨w.heap.size + 1, 0, none⟩) 0 0) 0 [] rfl (own_ext OWN.out (Ext.new _ _)) _ 1 1 [(.iface (opT e f a) (opX e f a))] rfl rfl (fun j u hj => by cases j with | zero => (simp at hj; subst hj; simp [go_sem, Addr.add]) | succ j => simp at hj) (by simp [Value.oneCell']) (by simp [maxLen]) (by omega) (by simp; omega) ?_); intro v9 w9 OWN8 hgr _; have hne : ∀ k, k < w.heap.size + 1 → some k ≠ Value.ownBlock (.slice (some ⟨w.heap.size + 1, 0, none⟩) 0 0) := fun k hk h => (by have := (World.ownsRow.lt OWN.out _ h.symm).1; omega); have c0 : w9.cell? ⟨w.heap.size, 0, none⟩ = some (.int .i64 e) := hgr.cell ((cell_alloc_before _ _ (w.heap.size) 0 (by omega)).trans (by with_reducible assumption)) (hne (w.heap.size) (by omega)); have c1 : w9.cell? ⟨w.heap.size, 1, none⟩ = some (.int .i64 f) := hgr.cell ((cell_alloc_before _ _ (w.heap.size) 1 (by omega)).trans (by with_reducible assumption)) (hne (w.heap.size) (by omega)); have c2 : w9.cell? ⟨g, 0, none⟩ = some (.int .i64 a) := hgr.cell ((cell_alloc_before _ _ (g) 0 (by omega)).trans (by with_reducible assumption)) (hne (g) (by omega)); have c3 : w9.cell? ⟨g, 1, none⟩ = some (.int .i64 b) := hgr.cell ((cell_alloc_before _ _ (g) 1 (by omega)).trans (by with_reducible assumption)) (hne (g) (by omega)); have sz : w1.heap.size + 1 ≤ w9.heap.size := (by have h := hgr.size; rwa [World.size_alloc] at h); have hs9 : max w.heap.size g < w9.heap.size := (by omega); have hx9 : Ext w w9 := ext_grown Ext.auK hgr (fun k hk => by have := (World.ownsRow.lt OWN.out k hk).1; omega); have OWN7 : RowKit.Hid (w9.ownsRow (w.heap.size + 1) 67 1 v9 1 [(.iface (opT e f a) (opX e f a))]) := OWN8; clear OWN OWN8 hne hgr; have OWN := OWN7; clear OWN7))
  rw [rounds_succ]
  go_wp2_with (first | (go_at_call 115; refine (isPattern_any e f _ _).mono ?_; rintro rv w1 ⟨rfl, hb⟩; (first | (have OWN9 := Lib.hid (own_ext OWN.out hb); clear OWN; have OWN := OWN9; clear OWN9) | (have OWN9 := Lib.hid (own_ext (own_ext OWN.out (Ext.new _ _)) hb); clear OWN; have OWN := OWN9; clear OWN9)); have ns : max w.heap.size g < w1.heap.size := hb.ltK; have n0 : w1.cell? ⟨w.heap.size, 0, none⟩ = some (.int .i64 e) := hb.cellK; have n1 : w1.cell? ⟨w.heap.size, 1, none⟩ = some (.int .i64 f) := hb.cellK; have n2 : w1.cell? ⟨g, 0, none⟩ = some (.int .i64 a) := hb.cellK; have n3 : w1.cell? ⟨g, 1, none⟩ = some (.int .i64 b) := hb.cellK; (first | (have nx := hx.trK hb; clear hx) | have nx := hb); clear hb; try clear hs; try clear g0; try clear g1; try clear g2; try clear g3; have hx := nx; clear nx; have hs := ns; clear ns; have g0 := n0; clear n0; have g1 := n1; clear n1; have g2 := n2; clear n2; have g3 := n3; clear n3) | (go_at_call 120; (with_reducible refine (operandOf_any e f b hb2 _ (hT.ext Ext.auK)).mono ?_); rintro rv w1 ⟨rfl, hb⟩; (first | (have OWN9 := Lib.hid (own_ext OWN.out hb); clear OWN; have OWN := OWN9; clear OWN9) | (have OWN9 := Lib.hid (own_ext (own_ext OWN.out (Ext.new _ _)) hb); clear OWN; have OWN := OWN9; clear OWN9)); have ns : max w.heap.size g < w1.heap.size := hb.ltK; have n0 : w1.cell? ⟨w.heap.size, 0, none⟩ = some (.int .i64 e) := hb.cellK; have n1 : w1.cell? ⟨w.heap.size, 1, none⟩ = some (.int .i64 f) := hb.cellK; have n2 : w1.cell? ⟨g, 0, none⟩ = some (.int .i64 a) := hb.cellK; have n3 : w1.cell? ⟨g, 1, none⟩ = some (.int .i64 b) := hb.cellK; (first | (have nx := hx.trK hb; clear hx) | have nx := hb); clear hb; try clear hs; try clear g0; try clear g1; try clear g2; try clear g3; have hx := nx; clear nx; have hs := ns; clear ns; have g0 := n0; clear n0; have g1 := n1; clear n1; have g2 := n2; clear n2; have g3 := n3; clear n3) | (at_builtin; (refine wpList_append_own _ rfl (.tmp 25) (.tmp 29) 71 rfl (w.heap.size + 1) 67 i _ 1 16 Tryz.underlying71 HI.out HZ.out HSZ.out HBY.out rfl (by decide) v9 1 [(.iface (opT e f a) (opX e f a))] rfl (own_ext OWN.out (Ext.new _ _)) _ 1 1 [(.iface (opT e f b) (opX e f b))] rfl rfl (fun j u hj => by cases j with | zero => (simp at hj; subst hj; simp [go_sem, Addr.add]) | succ j => simp at hj) (by simp [Value.oneCell']) (by simp [maxLen]) (by omega) (by simp; omega) ?_); intro v8 w8 OWN8 hgr _; have hne : ∀ k, k < w.heap.size + 1 → some k ≠ Value.ownBlock v9 := fun k hk h => (by have := (World.ownsRow.lt OWN.out _ h.symm).1; omega); have c0 : w8.cell? ⟨w.heap.size, 0, none⟩ = some (.int .i64 e) := hgr.cell ((cell_alloc_before _ _ (w.heap.size) 0 (by omega)).trans (by with_reducible assumption)) (hne (w.heap.size) (by omega)); have c1 : w8.cell? ⟨w.heap.size, 1, none⟩ = some (.int .i64 f) := hgr.cell ((cell_alloc_before _ _ (w.heap.size) 1 (by omega)).trans (by with_reducible assumption)) (hne (w.heap.size) (by omega)); have c2 : w8.cell? ⟨g, 0, none⟩ = some (.int .i64 a) := hgr.cell ((cell_alloc_before _ _ (g) 0 (by omega)).trans (by with_reducible assumption)) (hne (g) (by omega)); have c3 : w8.cell? ⟨g, 1, none⟩ = some (.int .i64 b) := hgr.cell ((cell_alloc_before _ _ (g) 1 (by omega)).trans (by with_reducible assumption)) (hne (g) (by omega)); have sz : w1.heap.size + 1 ≤ w8.heap.size := (by have h := hgr.size; rwa [World.size_alloc] at h); have hs9 : max w.heap.size g < w8.heap.size := (by omega); have hx9 : Ext w w8 := ext_grown Ext.auK hgr (fun k hk => by have := (World.ownsRow.lt OWN.out k hk).1; omega); have OWN7 : RowKit.Hid (w8.ownsRow (w.heap.size + 1) 67 1 v8 2 [(.iface (opT e f a) (opX e f a)), (.iface (opT e f b) (opX e f b))]) := OWN8; clear OWN OWN8 hne hgr; have OWN := OWN7; clear OWN7))
  rw [rounds_succ]
  go_wp2_with fail
  go_ret2
  exact ⟨v8, rfl, OWN.out, Ext.auK⟩
end Go.Proofs.YtfgbndjhaiigbaaGreatDoor

