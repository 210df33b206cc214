/-
  Contracts of the functions that the laws reach, and the plain facts that they rest on, each under the conditions that its line names; part 35.
-/
import Derived.Test.YtfgbndjhaiigbacGreatDoorKlo1
import Derived.Test.YtfgbndjhaiigbacGreatDoorKlo2
import Derived.Test.YtfgbndjhaiigbacGreatDoorKlo3
import Derived.Test.YtfgbndjhaiigbacGreatDoorKlo4
import Derived.Test.YtfgbndjhaiigbacGreatDoorKlo5
import Derived.Test.YtfgbndjhaiigbacGreatDoorKlo6
import Derived.Test.YtfgbndjhaiigbacGreatDoorKlo7
import Derived.Test.YtfgbndjhaiigbacGreatDoorKlo8
import Derived.Test.YtfgbndjhaiigbacGreatDoorKlo9
import Derived.Test.YtfgbndjhaiigbacGreatDoorKlo10
import Derived.Test.YtfgbndjhaiigbacGreatDoorKlo11
import Derived.Test.YtfgbndjhaiigbacGreatDoorKlo12
import Derived.Test.YtfgbndjhaiigbacGreatDoorKlo13
import Derived.Test.YtfgbndjhaiigbacGreatDoorKlo14
import Derived.Test.YtfgbndjhaiigbacGreatDoorKlo15
import Derived.Test.YtfgbndjhaiigbacGreatDoorKlo16
import Derived.Test.YtfgbndjhaiigbacGreatDoorKlo17
import Derived.Test.YtfgbndjhaiigbacGreatDoorKlo18
import Derived.Test.YtfgbndjhaiigbacGreatDoorKlo19
import Derived.Test.YtfgbndjhaiigbacGreatDoorKlo20
import Derived.Test.YtfgbndjhaiigbacGreatDoorKlo21
import Derived.Test.YtfgbndjhaiigbacGreatDoorKlo22
import Derived.Test.YtfgbndjhaiigbacGreatDoorKlo23
import Derived.Test.YtfgbndjhaiigbacGreatDoorKlo24
import Derived.Test.YtfgbndjhaiigbacGreatDoorKlo25
import Derived.Test.YtfgbndjhaiigbacGreatDoorKlo26
import Derived.Test.YtfgbndjhaiigbacGreatDoorKlo27
import Derived.Test.YtfgbndjhaiigbacGreatDoorKlo28
import Derived.Test.YtfgbndjhaiigbacGreatDoorKlo29
import Derived.Test.YtfgbndjhaiigbacGreatDoorKlo30
import Derived.Test.YtfgbndjhaiigbacGreatDoorKlo31
import Derived.Test.YtfgbndjhaiigbacGreatDoorKlo32
import Derived.Test.YtfgbndjhaiigbacGreatDoorKlo33
import Derived.Test.YtfgbndjhaiigbacGreatDoorKlo34
import Derived.Test.YtfgbndjhaiigbacGreatDoorRows
import Derived.WalkKit
import Derived.Handy
import Derived.LoopTactic
import Derived.LoopN
import Derived.Laws.OwnMore
import Derived.OwnWalk
import Derived.Deep.AppendLies
import Derived.Laws.Bits64b
import Derived.WalkSpells
import Derived.WalkLawsBesides
import Derived.StillTactics
import Derived.Laws.Pointers
import Derived.Deep.RegionHeld3
import Derived.Deep.QuietTactic
import Derived.BigQuiet
import Derived.Outline
import Derived.Lib.Hide
import Derived.RowKit3
import Derived.Carry
import Derived.IntWalk
import Derived.Lib.ItoaNum
import Derived.Laws.BytesString
import Derived.Laws.EntriesVeiled
import Derived.Deep.LoopGhost
namespace Go.Proofs.YtfgbndjhaiigbacGreatDoor
open Go Go.RowKit
set_option linter.unusedSimpArgs false
set_option linter.unusedVariables false
set_option maxRecDepth 100000

attribute [local go_sem] ta_finite_finite ta_finite_infinite ta_finite_noNumber ta_infinite_finite ta_infinite_infinite ta_infinite_noNumber ta_noNumber_finite ta_noNumber_infinite ta_noNumber_noNumber

/-- The tables of the library that texts and numbers read. -/
def TT (w : World) : Prop := TW w ∧ TXW w

theorem TT.ext {a b : World} (h : TT a) (x : Ext a b) : TT b := ⟨h.1.ext x, h.2.ext x⟩

theorem first_ok (g : Nat → Bool) (h : g 4 = true) : ∃ P, P < 5 ∧ g P = true ∧ ∀ Q, Q < P → g Q = false := by
  cases h0 : g 0
  · cases h1 : g 1
    · cases h2 : g 2
      · cases h3 : g 3
        · exact ⟨4, by decide, h, fun Q hQ => by rcases (show Q = 0 ∨ Q = 1 ∨ Q = 2 ∨ Q = 3 by omega) with rfl | rfl | rfl | rfl <;> assumption⟩
        · exact ⟨3, by decide, h3, fun Q hQ => by rcases (show Q = 0 ∨ Q = 1 ∨ Q = 2 by omega) with rfl | rfl | rfl <;> assumption⟩
      · exact ⟨2, by decide, h2, fun Q hQ => by rcases (show Q = 0 ∨ Q = 1 by omega) with rfl | rfl <;> assumption⟩
    · exact ⟨1, by decide, h1, fun Q hQ => by rw [show Q = 0 by omega]; exact h0⟩
  · exact ⟨0, by decide, h0, fun Q hQ => absurd hQ (by omega)⟩

theorem sh_ex {e f a : Int} (hf : finB e f a = true) (hz : unitsV e f a ≠ 0) (w : World) : ∃ P : Nat, P < 5 ∧ shOk e f ((unitsV e f a).natAbs : Int) (a % pw (e + f)) (tenN P) = true ∧ (∀ Q, Q < P → shOk e f ((unitsV e f a).natAbs : Int) (a % pw (e + f)) (tenN Q) = false) := by
  obtain ⟨hg, s0, s1, hu⟩ := fin_size hf
  have hp0 : 0 < a % pw (e + f) := by
    rcases Int.lt_or_eq_of_le s0 with h | h
    · exact h
    · exfalso
      have : mgV f (a % pw (e + f)) = 0 := by rw [← h]; unfold mgV; simp
      omega
  obtain ⟨low, t, b1, b2, b3, b4, b5, b6⟩ := bl_ex hf hz w 4 (by decide)
  refine first_ok (fun P => shOk e f ((unitsV e f a).natAbs : Int) (a % pw (e + f)) (tenN P)) ?_
  have h5 := sh_five (e := e) (f := f) (p := a % pw (e + f)) (low := low) (t := t) hg hp0 s1
  rw [← hu] at h5
  exact h5 ⟨b1, b2, b3, b4⟩ b5 (by omega)

/-- How great digits and power are. -/
theorem so_bd {e f a : Int} (hf : finB e f a = true) (w : World) : (0 ≤ soD e f a ∧ soD e f a ≤ 999999) ∧ -14 ≤ soT e f a ∧ soT e f a ≤ 14 := by
  by_cases hz : unitsV e f a = 0
  · have e1 : soD e f a = 0 := if_pos hz
    have e2 : soT e f a = 0 := if_pos hz
    rw [e1, e2]; decide
  · have e1 : soD e f a = (shF e f ((unitsV e f a).natAbs : Int) (a % pw (e + f))).1 := if_neg hz
    have e2 : soT e f a = (shF e f ((unitsV e f a).natAbs : Int) (a % pw (e + f))).2 := if_neg hz
    obtain ⟨P, hP, hok, hno⟩ := sh_ex hf hz w
    have e3 := sh_is (e := e) (f := f) (v := ((unitsV e f a).natAbs : Int)) (p := a % pw (e + f)) ⟨P, hP, hok, hno, rfl⟩
    rw [e1, e2, e3]
    obtain ⟨low, t, b1, b2, b3, b4, b5, b6⟩ := bl_ex hf hz w P (by omega)
    have hL := tenN_pos P
    have hL1 := tenN_le (k := P) 4 10000 rfl (by omega)
    rw [show P + 1 - 1 = P from rfl] at b3 b4
    have e4 := bl_is (e := e) (f := f) (v := ((unitsV e f a).natAbs : Int)) (L := tenN P) (low := low) (t := t) (by omega) ⟨b1, b2, b3, b4⟩
    have hD : shD e f ((unitsV e f a).natAbs : Int) (a % pw (e + f)) (tenN P) = low ∨ shD e f ((unitsV e f a).natAbs : Int) (a % pw (e + f)) (tenN P) = low + 1 := by
      unfold shD; rw [e4]; split
      · right; rfl
      · left; rfl
    unfold shX adX
    rw [e4]
    split
    · exact ⟨⟨by show 0 ≤ tenN P; omega, by show tenN P ≤ 999999; omega⟩, by show -14 ≤ t + 1; omega, by show t + 1 ≤ 14; omega⟩
    · exact ⟨⟨by show 0 ≤ shD e f _ _ _; omega, by show shD e f _ _ _ ≤ 999999; omega⟩, by show -14 ≤ t; omega, by show t ≤ 14; omega⟩
end Go.Proofs.YtfgbndjhaiigbacGreatDoor

namespace Go.Proofs.YtfgbndjhaiigbacGreatDoor
open Go Go.RowKit
set_option linter.unusedSimpArgs false
set_option linter.unusedVariables false
set_option maxRecDepth 100000

attribute [local go_sem] ta_finite_finite ta_finite_infinite ta_finite_noNumber ta_infinite_finite ta_infinite_infinite ta_infinite_noNumber ta_noNumber_finite ta_noNumber_infinite ta_noNumber_noNumber

theorem own_extP {w w' : World} {base : Nat} {e : TypeId} {size : Nat} {v : Value} {n : Nat} {xs : List Value} (h : w.ownsRow base e size v n xs) (hb : Ext w w') : w'.ownsRow base e size v n xs :=
  h.kept (row := none) ⟨hb.os, hb.tape, hb.output, hb.size, fun k hk _ => hb.block k hk⟩ (by by_cases h : v.ownBlock = none; exact Or.inl h; exact Or.inr h)

theorem ext_grownP {w W w' : World} {row : Option Nat} (hx : Ext w W) (hg : W.grownBy w' row) (hr : ∀ k, row = some k → w.heap.size ≤ k) : Ext w w' :=
  ⟨hg.os.trans hx.os, hg.tape.trans hx.tape, hg.output.trans hx.output, Nat.le_trans hx.size hg.size, fun k hk => (hg.block k (Nat.lt_of_lt_of_le hk hx.size) (fun h => by have := hr k h.symm; omega)).trans (hx.block k hk)⟩

/-- How many decimal digits a number has, none for 0. -/
def ndZ (m : Nat) : Nat := if m = 0 then 0 else (Lib.decDigits m).length

theorem ndZ_step {m : Nat} (h : 0 < m) : ndZ m = ndZ (m / 10) + 1 := by
  unfold ndZ
  rw [if_neg (by omega)]
  by_cases h1 : m < 10
  · rw [if_pos (by omega), decT_small h1]; rfl
  · rw [if_neg (by omega), decT_great h1, List.length_append]; rfl

theorem ndZ_len : ∀ (k m : Nat), m < 10 ^ k → ndZ m ≤ k
  | 0, m, h => by have : m = 0 := by simpa using h
                  subst this; exact Nat.le_refl _
  | k + 1, m, h => by
    by_cases h0 : m = 0
    · subst h0; show (if (0 : Nat) = 0 then 0 else _) ≤ _; simp
    · rw [ndZ_step (by omega)]
      have := ndZ_len k (m / 10) (by rw [Nat.pow_succ] at h; omega)
      omega

set_option maxHeartbeats 1600000 in
theorem txOf_any (N : Nat) (h0 : 0 < N) (h1 : N < 10000000) (w : World) : Calls Tryz.prog 70 #[.int .i64 (N : Int)] w fun rv w' => ∃ p c, rv = .returned (.slice p (ndZ N) c) ∧ Ext w w' := by
  obtain ⟨i, hi, hz, hsz, hby⟩ : ∃ i, Tryz.prog.info? 3 = some i ∧ i.zero = some (Value.int .i64 0) ∧ i.size = 1 ∧ i.bytes = 8 := by
    cases h : Tryz.prog.info? 3 with
    | none => exact absurd h (by have : (Tryz.prog.info? 3).isSome = true := by kernel_rfl
                                 intro h2; rw [h2] at this; cases this)
    | some i =>
      refine ⟨i, rfl, ?_, ?_, ?_⟩
      · have : (Tryz.prog.info? 3).map (·.zero) = some (some (Value.int .i64 0)) := by kernel_rfl
        rw [h] at this; exact Option.some.inj this
      · have : (Tryz.prog.info? 3).map (·.size) = some 1 := by kernel_rfl
        rw [h] at this; exact Option.some.inj this
      · have : (Tryz.prog.info? 3).map (·.bytes) = some 8 := by kernel_rfl
        rw [h] at this; exact Option.some.inj this
  have HI := Lib.hid hi; have HZ := Lib.hid hz; have HSZ := Lib.hid hsz; have HBY := Lib.hid hby; clear hi hz hsz hby
  go_enter Tryz.func70, Tryz.ntmps70
  go_wp2_with fail
  have nl := ndZ_len 7 N (by simpa using h1)
  go_loopw [0, 3] (fun s0 s3 wr => ∃ (m k : Nat) (xs : List Value), s0 = .int .i64 (m : Int) ∧ m ≤ N ∧ k + ndZ m = ndZ N ∧ wr.ownsRow w.heap.size 3 1 s3 k xs ∧ Ext w wr) (fun x _ _ => (intOf x).toNat)
  case atStart => exact ⟨N, 0, [], rfl, Nat.le_refl _, by omega, World.ownsRow_nil _ _ _ _, Ext.auK⟩
  case round =>
    obtain ⟨m, k, xs, rfl, mN, hk, OWN0, hx⟩ := hrel
    have OWN := Lib.hid OWN0
    clear OWN0
    by_cases hm : 0 < m
    · have q : (0 : Int) < (m : Int) := by omega
      have st := ndZ_step hm
      have tm : ((m : Nat) : Int).tmod 10 = ((m % 10 : Nat) : Int) := by rw [Int.tmod_eq_emod_of_nonneg (by omega)]; omega
      have td : ((m : Nat) : Int).tdiv 10 = ((m / 10 : Nat) : Int) := by rw [Int.tdiv_eq_ediv_of_nonneg (by omega)]; omega
      have kw : IntKind.i64.wrap ((m % 10 : Nat) : Int) = ((m % 10 : Nat) : Int) := IntWalk.i64_in _ (by omega)
      have kw2 : IntKind.i64.wrap ((m / 10 : Nat) : Int) = ((m / 10 : Nat) : Int) := IntWalk.i64_in _ (by omega)
      have hsz := hx.size
      go_wp2_with (at_builtin; (refine wpList_append_own _ rfl (.tmp 8) (.tmp 11) 42 rfl w.heap.size 3 i _ 1 8 Tryz.underlying42 HI.out HZ.out HSZ.out HBY.out rfl (by decide) _ k xs rfl (own_extP OWN.out (Ext.new _ _)) _ 1 1 [.int .i64 ((m % 10 : Nat) : Int)] rfl rfl (fun j u hj => by cases j with | zero => (simp at hj; subst hj; simp [go_sem, Addr.add]) | succ j => simp at hj) (by simp [Value.oneCell']) (by simp [maxLen]; omega) (by omega) (by simp; omega) ?_); intro v9 w9 OWN8 hgr _; have hx9 : Ext w w9 := ext_grownP Ext.auK hgr (fun k hk => by have := (World.ownsRow.lt OWN.out k hk).1; omega); have OWN7 : RowKit.Hid (w9.ownsRow w.heap.size 3 1 v9 (k + 1) (xs ++ [.int .i64 ((m % 10 : Nat) : Int)])) := OWN8; clear OWN OWN8 hgr; have OWN := OWN7; clear OWN7)
      go_roundw
      all_goals first | (simp [intOf]; done) | (simp [intOf]; omega) | exact ⟨m / 10, k + 1, _, rfl, by omega, by omega, OWN.out, hx9⟩
    · have q : ¬ (0 : Int) < (m : Int) := by omega
      have hm0 : m = 0 := by omega
      have z0 : ndZ 0 = 0 := rfl
      rw [hm0, z0] at hk
      have kN : k = ndZ N := by omega
      have k0 : 0 < k := by rw [kN, ndZ_step h0]; omega
      obtain ⟨gl, cap, hv, _, _⟩ := OWN.out.form (by omega)
      go_wp2_with fail
      go_ret
      exact ⟨⟨some ⟨gl, 0, none⟩, cap, by rw [← kN, ← hv]; rfl⟩, Ext.auK⟩

/-- The digits of a pattern's shortest decimal, 0 for what has no value; their number; the greatest one of the first k. -/
noncomputable def dgP (e f : Int) (p : Nat) : Int := if finB e f (p : Int) then soD e f (p : Int) else 0

noncomputable def lnP (e f : Int) (p : Nat) : Nat := (Lib.itoa (dgP e f p)).length

noncomputable def lgM (e f : Int) : Nat → Nat
  | 0 => 0
  | k + 1 => max (lgM e f k) (lnP e f k)

theorem itoa_zero : Lib.itoa 0 = [48] := by decide +kernel

theorem dg_bd (e f : Int) (p : Nat) (w : World) : 0 ≤ dgP e f p ∧ dgP e f p ≤ 999999 := by
  unfold dgP
  cases hf : finB e f (p : Int)
  · simp
  · have := (so_bd hf w).1
    simp only [if_true]
    exact this

theorem ln_bd (e f : Int) (p : Nat) (w : World) : 1 ≤ lnP e f p ∧ lnP e f p ≤ 20 := by
  obtain ⟨d0, d1⟩ := dg_bd e f p w
  refine ⟨?_, itoa_len (by omega) (by omega)⟩
  unfold lnP
  rw [itoa_pos (by omega)]
  have := dec_ne (dgP e f p).toNat
  cases h : Lib.decDigits (dgP e f p).toNat with
  | nil => exact absurd h this
  | cons a l => simp

theorem lg_bd (e f : Int) (w : World) : ∀ k, lgM e f k ≤ 20 ∧ (0 < k → 1 ≤ lgM e f k)
  | 0 => ⟨by show (0 : Nat) ≤ 20; decide, fun h => absurd h (by decide)⟩
  | k + 1 => by
    have i1 := (lg_bd e f w k).1
    obtain ⟨l1, l2⟩ := ln_bd e f k w
    show max (lgM e f k) (lnP e f k) ≤ 20 ∧ (_ → 1 ≤ max (lgM e f k) (lnP e f k))
    exact ⟨by omega, fun _ => by omega⟩

theorem lg_top (e f : Int) (gr K : Nat) (hno : ∀ k : Nat, gr < k → k < K → finB e f (k : Int) = false) (w : World) : ∀ d, gr + 1 + d ≤ K → lgM e f (gr + 1 + d) = lgM e f (gr + 1)
  | 0, _ => rfl
  | d + 1, hd => by
    have i1 := lg_top e f gr K hno w d (by omega)
    have e1 : lnP e f (gr + 1 + d) = 1 := by
      unfold lnP dgP
      rw [hno _ (by omega) (by omega)]
      simp only [Bool.false_eq_true, if_false]
      rw [itoa_zero]; rfl
    show max (lgM e f (gr + 1 + d)) (lnP e f (gr + 1 + d)) = _
    rw [i1, e1]
    have := (lg_bd e f w (gr + 1)).2 (by omega)
    omega

theorem so_pos {e f a : Int} (hf : finB e f a = true) (hz : unitsV e f a ≠ 0) (w : World) : 1 ≤ soD e f a := by
  have e1 : soD e f a = (shF e f ((unitsV e f a).natAbs : Int) (a % pw (e + f))).1 := if_neg hz
  obtain ⟨P, hP, hok, hno⟩ := sh_ex hf hz w
  have e3 := sh_is (e := e) (f := f) (v := ((unitsV e f a).natAbs : Int)) (p := a % pw (e + f)) ⟨P, hP, hok, hno, rfl⟩
  rw [e1, e3]
  obtain ⟨low, t, b1, b2, b3, b4, b5, b6⟩ := bl_ex hf hz w P (by omega)
  have hL := tenN_pos P
  rw [show P + 1 - 1 = P from rfl] at b3 b4
  have e4 := bl_is (e := e) (f := f) (v := ((unitsV e f a).natAbs : Int)) (L := tenN P) (low := low) (t := t) (by omega) ⟨b1, b2, b3, b4⟩
  have hD : shD e f ((unitsV e f a).natAbs : Int) (a % pw (e + f)) (tenN P) = low ∨ shD e f ((unitsV e f a).natAbs : Int) (a % pw (e + f)) (tenN P) = low + 1 := by
    unfold shD; rw [e4]; split
    · right; rfl
    · left; rfl
  unfold shX adX
  split
  · show 1 ≤ tenN P; omega
  · show 1 ≤ shD e f _ _ _; omega

/-- Formats of at most ten bits. -/
def lsB (e f : Int) : Bool := goodB e f && decide (1 + e + f ≤ 10)

theorem iLongest_no (e f : Int) (hg : lsB e f = false) (w : World) : Calls Tryz.prog 28 #[fmt e f] w fun rv w' => rv = .returned (.tuple #[.int .i64 0, .bool false]) ∧ Ext w w' := by
  unfold lsB at hg
  cases h : goodB e f
  · have WN := Lib.hid (fun w => iWidthOf_no e f h w)
    go_enter Tryz.func28, Tryz.ntmps28
    go_wp2_with (go_at_call 71; refine (WN.out _).mono ?_; rintro rv w1 ⟨rfl, hb⟩; have ns : w.heap.size < w1.heap.size := hb.ltK; have n0 : w1.cell? ⟨w.heap.size, 0, none⟩ = some (.int .i64 e) := hb.cellK; have n1 : w1.cell? ⟨w.heap.size, 1, none⟩ = some (.int .i64 f) := hb.cellK; (first | (have nx := hx.trK hb; clear hx) | have nx := hb); clear hb; try clear hs; try clear g0; try clear g1; have hx := nx; clear nx; have hs := ns; clear ns; have g0 := n0; clear n0; have g1 := n1; clear n1)
    go_ret2
    exact ⟨rfl, Ext.auK⟩
  · rw [h, Bool.true_and, decide_eq_false_iff_not] at hg
    have WN := Lib.hid (fun w => iWidthOf_yes e f h w)
    have q : 10 < 1 + e + f := by omega
    go_enter Tryz.func28, Tryz.ntmps28
    go_wp2_with (go_at_call 71; refine (WN.out _).mono ?_; rintro rv w1 ⟨rfl, hb⟩; have ns : w.heap.size < w1.heap.size := hb.ltK; have n0 : w1.cell? ⟨w.heap.size, 0, none⟩ = some (.int .i64 e) := hb.cellK; have n1 : w1.cell? ⟨w.heap.size, 1, none⟩ = some (.int .i64 f) := hb.cellK; (first | (have nx := hx.trK hb; clear hx) | have nx := hb); clear hb; try clear hs; try clear g0; try clear g1; have hx := nx; clear nx; have hs := ns; clear ns; have g0 := n0; clear n0; have g1 := n1; clear n1)
    go_ret2
    exact ⟨rfl, Ext.auK⟩

theorem sLongest_no (e f : Int) (hg : lsB e f = false) (w : World) : Calls Tryz.prog 27 #[fmt e f] w fun rv w' => rv = .returned (.tuple #[.int .i64 0, .bool false]) ∧ Ext w w' := by
  unfold lsB at hg
  have FG := fun w => fmGood_any e f w
  cases h : goodB e f
  · rw [h] at FG
    have FG := Lib.hid FG
    go_enter Tryz.func27, Tryz.ntmps27
    go_wp2_with (go_at_call 55; refine (FG.out _).mono ?_; rintro rv w1 ⟨rfl, hb⟩; have ns : w.heap.size < w1.heap.size := hb.ltK; have n0 : w1.cell? ⟨w.heap.size, 0, none⟩ = some (.int .i64 e) := hb.cellK; have n1 : w1.cell? ⟨w.heap.size, 1, none⟩ = some (.int .i64 f) := hb.cellK; (first | (have nx := hx.trK hb; clear hx) | have nx := hb); clear hb; try clear hs; try clear g0; try clear g1; have hx := nx; clear nx; have hs := ns; clear ns; have g0 := n0; clear n0; have g1 := n1; clear n1)
    go_ret2
    exact ⟨rfl, Ext.auK⟩
  · rw [h] at FG
    have FG := Lib.hid FG
    rw [h, Bool.true_and, decide_eq_false_iff_not] at hg
    have WN := Lib.hid (fun w => fmWidth_any e f h w)
    have q : 10 < 1 + e + f := by omega
    go_enter Tryz.func27, Tryz.ntmps27
    go_wp2_with (first | (go_at_call 55; refine (FG.out _).mono ?_; rintro rv w1 ⟨rfl, hb⟩; have ns : w.heap.size < w1.heap.size := hb.ltK; have n0 : w1.cell? ⟨w.heap.size, 0, none⟩ = some (.int .i64 e) := hb.cellK; have n1 : w1.cell? ⟨w.heap.size, 1, none⟩ = some (.int .i64 f) := hb.cellK; (first | (have nx := hx.trK hb; clear hx) | have nx := hb); clear hb; try clear hs; try clear g0; try clear g1; have hx := nx; clear nx; have hs := ns; clear ns; have g0 := n0; clear n0; have g1 := n1; clear n1) | (go_at_call 62; refine (WN.out _).mono ?_; rintro rv w1 ⟨rfl, hb⟩; have ns : w.heap.size < w1.heap.size := hb.ltK; have n0 : w1.cell? ⟨w.heap.size, 0, none⟩ = some (.int .i64 e) := hb.cellK; have n1 : w1.cell? ⟨w.heap.size, 1, none⟩ = some (.int .i64 f) := hb.cellK; (first | (have nx := hx.trK hb; clear hx) | have nx := hb); clear hb; try clear hs; try clear g0; try clear g1; have hx := nx; clear nx; have hs := ns; clear ns; have g0 := n0; clear n0; have g1 := n1; clear n1))
    go_ret2
    exact ⟨rfl, Ext.auK⟩

theorem iShortest_dg (e f : Int) (p : Nat) (w : World) (hT : TW w) : Calls Tryz.prog 26 #[fmt e f, .int .i64 (p : Int)] w fun rv w' => ∃ (T : Int) (b : Bool), rv = .returned (.tuple #[.int .i64 (dgP e f p), .int .i64 T, .bool b]) ∧ Ext w w' := by
  unfold dgP
  cases hf : finB e f (p : Int)
  · exact (iShortestOf_no e f p hf w hT).mono fun _ _ ⟨he, hx⟩ => ⟨0, false, he, hx⟩
  · exact (iShortestOf_yes e f p hf w hT).mono fun _ _ ⟨he, hx⟩ => ⟨_, true, he, hx⟩

set_option maxHeartbeats 3200000 in
theorem iLongest_yes (e f : Int) (K : Nat) (hg : lsB e f = true) (hK : pw (e + f) = (K : Int)) (w : World) (hT : TT w) : Calls Tryz.prog 28 #[fmt e f] w fun rv w' => rv = .returned (.tuple #[.int .i64 (lgM e f K : Int), .bool true]) ∧ Ext w w' := by
  unfold lsB at hg
  rw [Bool.and_eq_true, decide_eq_true_eq] at hg
  obtain ⟨g0, g1⟩ := hg
  obtain ⟨h1, h2, h3, h4⟩ := good_iff.1 g0
  have WN := Lib.hid (fun w => iWidthOf_yes e f g0 w)
  have SB := fun w => signBit_any e f g0 w
  rw [hK] at SB
  have SB := Lib.hid SB
  have K1 : (K : Int) ≤ 512 := by rw [← hK]; exact pw_le 9 512 rfl (by omega)
  have q : ¬ 10 < 1 + e + f := by omega
  have SO := Lib.hid (fun p w hT => iShortest_dg e f p w hT)
  have LB := Lib.hid (fun p => dg_bd e f p w)
  have IL := Lib.hid (fun p => ln_bd e f p w)
  have MB := Lib.hid (fun k => lg_bd e f w k)
  have ST : RowKit.Hid (∀ k, lgM e f (k + 1) = max (lgM e f k) (lnP e f k)) := Lib.hid (fun k => rfl)
  have LN : RowKit.Hid (∀ p, (Lib.itoa (dgP e f p)).length = lnP e f p) := Lib.hid (fun p => rfl)
  clear g0 g1 h1 h2 h3 h4 hK
  go_enter Tryz.func28, Tryz.ntmps28
  go_wp2_with (first | (go_at_call 71; refine (WN.out _).mono ?_; rintro rv w1 ⟨rfl, hb⟩; have ns : w.heap.size < w1.heap.size := hb.ltK; have n0 : w1.cell? ⟨w.heap.size, 0, none⟩ = some (.int .i64 e) := hb.cellK; have n1 : w1.cell? ⟨w.heap.size, 1, none⟩ = some (.int .i64 f) := hb.cellK; (first | (have nx := hx.trK hb; clear hx) | have nx := hb); clear hb; try clear hs; try clear g0; try clear g1; have hx := nx; clear nx; have hs := ns; clear ns; have g0 := n0; clear n0; have g1 := n1; clear n1) | (go_at_call 63; refine (SB.out _).mono ?_; rintro rv w1 ⟨rfl, hb⟩; have ns : w.heap.size < w1.heap.size := hb.ltK; have n0 : w1.cell? ⟨w.heap.size, 0, none⟩ = some (.int .i64 e) := hb.cellK; have n1 : w1.cell? ⟨w.heap.size, 1, none⟩ = some (.int .i64 f) := hb.cellK; (first | (have nx := hx.trK hb; clear hx) | have nx := hb); clear hb; try clear hs; try clear g0; try clear g1; have hx := nx; clear nx; have hs := ns; clear ns; have g0 := n0; clear n0; have g1 := n1; clear n1))
  go_loopw [24, 6] (fun s24 s6 wr => ∃ k : Nat, s24 = .int .i64 (k : Int) ∧ s6 = .int .i64 (lgM e f k : Int) ∧ k ≤ K ∧ wr.cell? ⟨w.heap.size, 0, none⟩ = some (.int .i64 e) ∧ wr.cell? ⟨w.heap.size, 1, none⟩ = some (.int .i64 f) ∧ w.heap.size < wr.heap.size ∧ Ext w wr) (fun x _ _ => K - (intOf x).toNat)
  case atStart => exact ⟨0, rfl, rfl, by omega, (by first | with_reducible assumption | (simp [go_sem]; done) | (simp [go_sem, *]; done)), (by first | with_reducible assumption | (simp [go_sem]; done) | (simp [go_sem, *]; done)), (by first | omega | (simp; done) | (simp; omega)), Ext.auK⟩
  case round =>
    obtain ⟨k, rfl, rfl, kK, g0, g1, hs, hx⟩ := hrel
    by_cases hk : k < K
    · have q1 : (k : Int) < (K : Int) := by omega
      obtain ⟨d0, d1⟩ := LB.out k
      obtain ⟨m0, _⟩ := MB.out k
      obtain ⟨l0, l1⟩ := IL.out k
      have IT := Lib.hid (fun w hT => itoa_any (dgP e f k) (by omega) (by omega) w hT)
      have st := ST.out k
      have SK := Lib.hid (fun w hT => SO.out k w hT)
      have ln := LN.out k
      generalize dgP e f k = D at *
      obtain ⟨l, hl⟩ : ∃ l, Lib.itoa D = l := ⟨_, rfl⟩
      rw [hl] at IT ln
      have HS := Lib.hid st
      have HLn := Lib.hid ln
      clear st ln hl SO LB IL LN ST d0 d1
      have kw : IntKind.i64.wrap ((k : Int) + 1) = (k : Int) + 1 := IntWalk.i64_in _ (by omega)
      go_wp2_with (first | (go_at_call 26; refine (SK.out _ (hT.ext Ext.auK).1).mono ?_; rintro rv w1 ⟨T, b, rfl, hb⟩; have ns : w.heap.size < w1.heap.size := hb.ltK; have n0 : w1.cell? ⟨w.heap.size, 0, none⟩ = some (.int .i64 e) := hb.cellK; have n1 : w1.cell? ⟨w.heap.size, 1, none⟩ = some (.int .i64 f) := hb.cellK; (first | (have nx := hx.trK hb; clear hx) | have nx := hb); clear hb; try clear hs; try clear g0; try clear g1; have hx := nx; clear nx; have hs := ns; clear ns; have g0 := n0; clear n0; have g1 := n1; clear n1) | (go_at_call 72; refine (IT.out _ (hT.ext Ext.auK).2).mono ?_; rintro rv w1 ⟨rfl, hb⟩; have ns : w.heap.size < w1.heap.size := hb.ltK; have n0 : w1.cell? ⟨w.heap.size, 0, none⟩ = some (.int .i64 e) := hb.cellK; have n1 : w1.cell? ⟨w.heap.size, 1, none⟩ = some (.int .i64 f) := hb.cellK; (first | (have nx := hx.trK hb; clear hx) | have nx := hb); clear hb; try clear hs; try clear g0; try clear g1; have hx := nx; clear nx; have hs := ns; clear ns; have g0 := n0; clear n0; have g1 := n1; clear n1))
      go_roundw
      all_goals first | (simp [intOf]; done) | (simp [intOf]; omega) | exact ⟨k + 1, by first | rfl | simp, (by rw [HS.out]; have := HLn.out; first | (congr 1; omega) | (simp; omega)), by omega, (by first | with_reducible assumption | (simp [go_sem]; done) | (simp [go_sem, *]; done)), (by first | with_reducible assumption | (simp [go_sem]; done) | (simp [go_sem, *]; done)), (by first | omega | (simp; done) | (simp; omega)), Ext.auK⟩
    · have q1 : ¬ (k : Int) < (K : Int) := by omega
      have e1 : k = K := by omega
      have EK := Lib.hid e1
      clear e1
      go_wp2
      go_ret2
      exact ⟨by rw [← EK.out]; rfl, Ext.auK⟩

theorem fin_below {e f : Int} (hg : goodB e f = true) (j : Nat) (h1 : (j : Int) ≤ grV e f) : finB e f (j : Int) = true := by
  obtain ⟨g1, g2, g3⟩ := gr_bd2 hg
  have pf := pw_pos f
  have hm : (j : Int) % pw (e + f) = (j : Int) := Int.emod_eq_of_lt (by omega) (by omega)
  unfold finB
  rw [pat_iff.2 ⟨hg, by omega, by omega⟩, Bool.true_and, decide_eq_true_eq, hm]
  exact Int.ediv_lt_of_lt_mul (by omega) (by unfold grV at h1; omega)

theorem fin_above {e f : Int} (hg : goodB e f = true) (j : Nat) (h1 : grV e f < (j : Int)) (h2 : (j : Int) < pw (e + f)) : finB e f (j : Int) = false := by
  have pf := pw_pos f
  have hm : (j : Int) % pw (e + f) = (j : Int) := Int.emod_eq_of_lt (by omega) h2
  unfold finB
  have h3 : pw e - 1 ≤ (j : Int) / pw f := (Int.le_ediv_iff_mul_le (by omega)).2 (by unfold grV at h1; omega)
  rw [hm, decide_eq_false (by omega), Bool.and_false]

theorem units_below {e f : Int} (hg : goodB e f = true) (j : Nat) (h0 : 0 < j) (h1 : (j : Int) ≤ grV e f) : unitsV e f (j : Int) ≠ 0 := by
  obtain ⟨_, _, _, hu⟩ := fin_size (fin_below hg j h1)
  obtain ⟨g1, g2, g3⟩ := gr_bd2 hg
  have hf := (good_iff.1 hg).2.2.1
  have hm : (j : Int) % pw (e + f) = (j : Int) := Int.emod_eq_of_lt (by omega) (by omega)
  rw [hm] at hu
  have n1 := mg_next (p := 0) hf (Int.le_refl _)
  have n0 : mgV f 0 = 0 := by unfold mgV; simp
  have n2 := mg_mono f 1 (j : Int) hf (by decide) (by omega)
  rw [Int.zero_add] at n1
  intro h
  rw [h] at hu
  simp at hu
  omega

theorem txShort_dg {e f : Int} (hg : goodB e f = true) (j : Nat) (h0 : 0 < j) (h1 : (j : Int) ≤ grV e f) (w : World) : Calls Tryz.prog 65 #[fmt e f, .int .i64 (j : Int)] w fun rv w' => ∃ T : Int, rv = .returned (.tuple #[.int .i64 (dgP e f j), .int .i64 T]) ∧ Ext w w' := by
  have hf := fin_below hg j h1
  have hz := units_below hg j h0 h1
  have e1 : dgP e f j = (shF e f ((unitsV e f (j : Int)).natAbs : Int) ((j : Int) % pw (e + f))).1 := by
    unfold dgP soD; rw [hf, if_neg hz]; rfl
  rw [e1]
  exact (txShort_any e f j hf hz w).mono fun _ _ ⟨he, hx⟩ => ⟨_, he, hx⟩

theorem nd_ln {e f : Int} (hg : goodB e f = true) (j : Nat) (h0 : 0 < j) (h1 : (j : Int) ≤ grV e f) (w : World) : 1 ≤ dgP e f j ∧ dgP e f j ≤ 999999 ∧ ndZ (dgP e f j).toNat = lnP e f j := by
  have hf := fin_below hg j h1
  have hp := so_pos hf (units_below hg j h0 h1) w
  have e1 : dgP e f j = soD e f (j : Int) := by unfold dgP; rw [hf]; rfl
  have d2 := (dg_bd e f j w).2
  refine ⟨by omega, d2, ?_⟩
  unfold lnP ndZ
  rw [itoa_pos (by omega), if_neg (by omega)]

set_option maxHeartbeats 3200000 in
theorem sLongest_yes (e f : Int) (K : Nat) (hg : lsB e f = true) (hK : pw (e + f) = (K : Int)) (w : World) : Calls Tryz.prog 27 #[fmt e f] w fun rv w' => rv = .returned (.tuple #[.int .i64 (lgM e f K : Int), .bool true]) ∧ Ext w w' := by
  unfold lsB at hg
  rw [Bool.and_eq_true, decide_eq_true_eq] at hg
  obtain ⟨g0, g1⟩ := hg
  have FG := fun w => fmGood_any e f w
  rw [g0] at FG
  have FG := Lib.hid FG
  have WN := Lib.hid (fun w => fmWidth_any e f g0 w)
  have q : ¬ 10 < 1 + e + f := by omega
  obtain ⟨r1, r2, r3⟩ := gr_bd2 g0
  obtain ⟨gr, hgr⟩ : ∃ gr : Nat, grV e f = (gr : Int) := ⟨(grV e f).toNat, by omega⟩
  have GR := fun w => fmGreatest_any e f g0 w
  rw [show (pw e - 1) * pw f - 1 = grV e f from rfl, hgr] at GR
  have GR := Lib.hid GR
  have top : lgM e f K = lgM e f (gr + 1) := by
    have := lg_top e f gr K (fun k a b => fin_above g0 k (by omega) (by omega)) w (K - (gr + 1)) (by omega)
    rwa [show gr + 1 + (K - (gr + 1)) = K by omega] at this
  rw [top]
  have TSJ := Lib.hid (fun (j : Nat) (h0 : 0 < j) (h1 : j ≤ gr) w => txShort_dg g0 j h0 (by omega) w)
  have NL := Lib.hid (fun (j : Nat) (h0 : 0 < j) (h1 : j ≤ gr) => nd_ln g0 j h0 (by omega) w)
  have M1 : RowKit.Hid (lgM e f 1 ≤ 1) := Lib.hid (by
    show max 0 (lnP e f 0) ≤ 1
    have : lnP e f 0 = 1 := by
      unfold lnP dgP
      have hf := fin_below g0 0 (by omega)
      have hz : unitsV e f ((0 : Nat) : Int) = 0 := by unfold unitsV magV; simp
      rw [hf]
      simp only [if_true]
      have : soD e f ((0 : Nat) : Int) = 0 := if_pos hz
      rw [this, itoa_zero]; rfl
    omega)
  have IL := Lib.hid (fun p => ln_bd e f p w)
  have MB := Lib.hid (fun k => lg_bd e f w k)
  have ST : RowKit.Hid (∀ k, lgM e f (k + 1) = max (lgM e f k) (lnP e f k)) := Lib.hid (fun k => rfl)
  have gr1 : 0 < gr := by omega
  have gr2 : gr ≤ 32767 := by omega
  clear g0 g1 hgr r1 r2 r3 hK top
  go_enter Tryz.func27, Tryz.ntmps27
  go_wp2_with (first | (go_at_call 55; refine (FG.out _).mono ?_; rintro rv w1 ⟨rfl, hb⟩; have ns : w.heap.size < w1.heap.size := hb.ltK; have n0 : w1.cell? ⟨w.heap.size, 0, none⟩ = some (.int .i64 e) := hb.cellK; have n1 : w1.cell? ⟨w.heap.size, 1, none⟩ = some (.int .i64 f) := hb.cellK; (first | (have nx := hx.trK hb; clear hx) | have nx := hb); clear hb; try clear hs; try clear g0; try clear g1; have hx := nx; clear nx; have hs := ns; clear ns; have g0 := n0; clear n0; have g1 := n1; clear n1) | (go_at_call 62; refine (WN.out _).mono ?_; rintro rv w1 ⟨rfl, hb⟩; have ns : w.heap.size < w1.heap.size := hb.ltK; have n0 : w1.cell? ⟨w.heap.size, 0, none⟩ = some (.int .i64 e) := hb.cellK; have n1 : w1.cell? ⟨w.heap.size, 1, none⟩ = some (.int .i64 f) := hb.cellK; (first | (have nx := hx.trK hb; clear hx) | have nx := hb); clear hb; try clear hs; try clear g0; try clear g1; have hx := nx; clear nx; have hs := ns; clear ns; have g0 := n0; clear n0; have g1 := n1; clear n1))
  go_loopw [5, 4] (fun s5 s4 wr => ∃ j m : Nat, s5 = .int .i64 (j : Int) ∧ s4 = .int .i64 (m : Int) ∧ 1 ≤ j ∧ j ≤ gr + 1 ∧ RowKit.Hid ((j = 1 → m = 0) ∧ (2 ≤ j → m = lgM e f j)) ∧ wr.cell? ⟨w.heap.size, 0, none⟩ = some (.int .i64 e) ∧ wr.cell? ⟨w.heap.size, 1, none⟩ = some (.int .i64 f) ∧ w.heap.size < wr.heap.size ∧ Ext w wr) (fun x _ _ => gr + 1 - (intOf x).toNat)
  case atStart => exact ⟨1, 0, rfl, rfl, by decide, by omega, Lib.hid ⟨fun _ => rfl, fun h => absurd h (by decide)⟩, (by first | with_reducible assumption | (simp [go_sem]; done) | (simp [go_sem, *]; done)), (by first | with_reducible assumption | (simp [go_sem]; done) | (simp [go_sem, *]; done)), (by first | omega | (simp; done) | (simp; omega)), Ext.auK⟩
  case round =>
    obtain ⟨j, m, rfl, rfl, j1, jK, HM, g0, g1, hs, hx⟩ := hrel
    by_cases hk : j ≤ gr
    · have q1 : (j : Int) ≤ (gr : Int) := by omega
      obtain ⟨d0, d1, d2⟩ := NL.out j j1 hk
      obtain ⟨l0, l1⟩ := IL.out j
      obtain ⟨mb0, _⟩ := MB.out j
      have TSK := Lib.hid (fun w => TSJ.out j j1 hk w)
      have hm : max m (lnP e f j) = lgM e f (j + 1) := by
        rw [ST.out j]
        rcases Nat.lt_or_eq_of_le j1 with g | g
        · rw [HM.out.2 (by omega)]
        · have a := HM.out.1 g.symm
          have b := M1.out
          rw [← g] at l0 ⊢
          omega
      have m20 : m ≤ 20 := by
        rcases Nat.lt_or_eq_of_le j1 with g | g
        · rw [HM.out.2 (by omega)]; exact mb0
        · rw [HM.out.1 g.symm]; decide
      obtain ⟨N, hN⟩ : ∃ N : Nat, dgP e f j = (N : Int) := ⟨(dgP e f j).toNat, by omega⟩
      rw [hN] at TSK d0 d1 d2
      rw [Int.toNat_natCast] at d2
      have TO := Lib.hid (fun w => txOf_any N (by omega) (by omega) w)
      rw [d2] at TO
      have HMX := Lib.hid hm
      generalize lnP e f j = ln at *
      clear hm d2 hN d0 d1 NL IL MB TSJ mb0 HM ST M1
      have kw : IntKind.i64.wrap ((j : Int) + 1) = (j : Int) + 1 := IntWalk.i64_in _ (by omega)
      go_wp2_with (first | (go_at_call 68; refine (GR.out _).mono ?_; rintro rv w1 ⟨rfl, hb⟩; have ns : w.heap.size < w1.heap.size := hb.ltK; have n0 : w1.cell? ⟨w.heap.size, 0, none⟩ = some (.int .i64 e) := hb.cellK; have n1 : w1.cell? ⟨w.heap.size, 1, none⟩ = some (.int .i64 f) := hb.cellK; (first | (have nx := hx.trK hb; clear hx) | have nx := hb); clear hb; try clear hs; try clear g0; try clear g1; have hx := nx; clear nx; have hs := ns; clear ns; have g0 := n0; clear n0; have g1 := n1; clear n1) | (go_at_call 65; refine (TSK.out _).mono ?_; rintro rv w1 ⟨T, rfl, hb⟩; have ns : w.heap.size < w1.heap.size := hb.ltK; have n0 : w1.cell? ⟨w.heap.size, 0, none⟩ = some (.int .i64 e) := hb.cellK; have n1 : w1.cell? ⟨w.heap.size, 1, none⟩ = some (.int .i64 f) := hb.cellK; (first | (have nx := hx.trK hb; clear hx) | have nx := hb); clear hb; try clear hs; try clear g0; try clear g1; have hx := nx; clear nx; have hs := ns; clear ns; have g0 := n0; clear n0; have g1 := n1; clear n1) | (go_at_call 70; refine (TO.out _).mono ?_; rintro rv w1 ⟨pp, cc, rfl, hb⟩; have ns : w.heap.size < w1.heap.size := hb.ltK; have n0 : w1.cell? ⟨w.heap.size, 0, none⟩ = some (.int .i64 e) := hb.cellK; have n1 : w1.cell? ⟨w.heap.size, 1, none⟩ = some (.int .i64 f) := hb.cellK; (first | (have nx := hx.trK hb; clear hx) | have nx := hb); clear hb; try clear hs; try clear g0; try clear g1; have hx := nx; clear nx; have hs := ns; clear ns; have g0 := n0; clear n0; have g1 := n1; clear n1) | (go_at_call 69; refine (l1Most_any _ _ _).mono ?_; rintro rv w1 ⟨rfl, rfl⟩))
      go_roundw
      all_goals first | (simp [intOf]; done) | (simp [intOf]; omega) | exact ⟨j + 1, max m ln, by first | rfl | simp, (by first | rfl | (congr 1; omega) | (simp; omega)), by omega, by omega, Lib.hid ⟨fun h => absurd h (by omega), fun _ => HMX.out⟩, (by first | with_reducible assumption | (simp [go_sem]; done) | (simp [go_sem, *]; done)), (by first | with_reducible assumption | (simp [go_sem]; done) | (simp [go_sem, *]; done)), (by first | omega | (simp; done) | (simp; omega)), Ext.auK⟩
    · have q1 : ¬ (j : Int) ≤ (gr : Int) := by omega
      have e1 : j = gr + 1 := by omega
      have EK := Lib.hid (HM.out.2 (by omega))
      rw [e1] at EK
      go_wp2_with (first | (go_at_call 68; refine (GR.out _).mono ?_; rintro rv w1 ⟨rfl, hb⟩; have ns : w.heap.size < w1.heap.size := hb.ltK; have n0 : w1.cell? ⟨w.heap.size, 0, none⟩ = some (.int .i64 e) := hb.cellK; have n1 : w1.cell? ⟨w.heap.size, 1, none⟩ = some (.int .i64 f) := hb.cellK; (first | (have nx := hx.trK hb; clear hx) | have nx := hb); clear hb; try clear hs; try clear g0; try clear g1; have hx := nx; clear nx; have hs := ns; clear ns; have g0 := n0; clear n0; have g1 := n1; clear n1))
      go_ret2
      exact ⟨by rw [← EK.out]; rfl, Ext.auK⟩
end Go.Proofs.YtfgbndjhaiigbacGreatDoor

