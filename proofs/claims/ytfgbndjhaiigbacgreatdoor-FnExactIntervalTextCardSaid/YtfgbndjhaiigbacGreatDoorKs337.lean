/-
  Contracts of the functions that the laws reach, and the plain facts that they rest on, each under the conditions that its line names; part 37.
-/
import Derived.Test.YtfgbndjhaiigbacGreatDoorKs31
import Derived.Test.YtfgbndjhaiigbacGreatDoorKs32
import Derived.Test.YtfgbndjhaiigbacGreatDoorKs33
import Derived.Test.YtfgbndjhaiigbacGreatDoorKs34
import Derived.Test.YtfgbndjhaiigbacGreatDoorKs35
import Derived.Test.YtfgbndjhaiigbacGreatDoorKs36
import Derived.Test.YtfgbndjhaiigbacGreatDoorKs37
import Derived.Test.YtfgbndjhaiigbacGreatDoorKs38
import Derived.Test.YtfgbndjhaiigbacGreatDoorKs39
import Derived.Test.YtfgbndjhaiigbacGreatDoorKs310
import Derived.Test.YtfgbndjhaiigbacGreatDoorKs311
import Derived.Test.YtfgbndjhaiigbacGreatDoorKs312
import Derived.Test.YtfgbndjhaiigbacGreatDoorKs313
import Derived.Test.YtfgbndjhaiigbacGreatDoorKs314
import Derived.Test.YtfgbndjhaiigbacGreatDoorKs315
import Derived.Test.YtfgbndjhaiigbacGreatDoorKs316
import Derived.Test.YtfgbndjhaiigbacGreatDoorKs317
import Derived.Test.YtfgbndjhaiigbacGreatDoorKs318
import Derived.Test.YtfgbndjhaiigbacGreatDoorKs319
import Derived.Test.YtfgbndjhaiigbacGreatDoorKs320
import Derived.Test.YtfgbndjhaiigbacGreatDoorKs321
import Derived.Test.YtfgbndjhaiigbacGreatDoorKs322
import Derived.Test.YtfgbndjhaiigbacGreatDoorKs323
import Derived.Test.YtfgbndjhaiigbacGreatDoorKs324
import Derived.Test.YtfgbndjhaiigbacGreatDoorKs325
import Derived.Test.YtfgbndjhaiigbacGreatDoorKs326
import Derived.Test.YtfgbndjhaiigbacGreatDoorKs327
import Derived.Test.YtfgbndjhaiigbacGreatDoorKs328
import Derived.Test.YtfgbndjhaiigbacGreatDoorKs329
import Derived.Test.YtfgbndjhaiigbacGreatDoorKs330
import Derived.Test.YtfgbndjhaiigbacGreatDoorKs331
import Derived.Test.YtfgbndjhaiigbacGreatDoorKs332
import Derived.Test.YtfgbndjhaiigbacGreatDoorKs333
import Derived.Test.YtfgbndjhaiigbacGreatDoorKs335
import Derived.Test.YtfgbndjhaiigbacGreatDoorKs336
import Derived.Test.YtfgbndjhaiigbacGreatDoorRows
import Derived.WalkKit
import Derived.Handy
import Derived.LoopTactic
import Derived.LoopN
import Derived.Laws.OwnMore
import Derived.OwnWalk
import Derived.Deep.AppendLies
import Derived.Laws.Bits64b
import Derived.WalkSpells
import Derived.WalkLawsBesides
import Derived.StillTactics
import Derived.Laws.Pointers
import Derived.Deep.RegionHeld3
import Derived.Deep.QuietTactic
import Derived.BigQuiet
import Derived.Outline
import Derived.Lib.Hide
import Derived.RowKit3
import Derived.Carry
import Derived.IntWalk
import Derived.Lib.ItoaNum
import Derived.Laws.BytesString
import Derived.Lib.AtoiAll
import Derived.Lib.IndexMore
import Derived.Laws.EntriesVeiled
namespace Go.Proofs.YtfgbndjhaiigbacGreatDoor
open Go Go.RowKit
set_option linter.unusedSimpArgs false
set_option linter.unusedVariables false
set_option maxRecDepth 100000

attribute [local go_sem] ta_finite_finite ta_finite_infinite ta_finite_noNumber ta_infinite_finite ta_infinite_infinite ta_infinite_noNumber ta_noNumber_finite ta_noNumber_infinite ta_noNumber_noNumber

/-- The tables of the library that texts and numbers read. -/
def TT (w : World) : Prop := TW w ∧ TXW w

theorem TT.ext {a b : World} (h : TT a) (x : Ext a b) : TT b := ⟨h.1.ext x, h.2.ext x⟩

/-- A sign ahead of a text. -/
def sgT (s : Int) : List UInt8 := if s = 1 then [45] else []

theorem sgT_length (s : Int) : (sgT s).length ≤ 1 := by unfold sgT; split <;> simp

theorem first_ok (g : Nat → Bool) (h : g 4 = true) : ∃ P, P < 5 ∧ g P = true ∧ ∀ Q, Q < P → g Q = false := by
  cases h0 : g 0
  · cases h1 : g 1
    · cases h2 : g 2
      · cases h3 : g 3
        · exact ⟨4, by decide, h, fun Q hQ => by rcases (show Q = 0 ∨ Q = 1 ∨ Q = 2 ∨ Q = 3 by omega) with rfl | rfl | rfl | rfl <;> assumption⟩
        · exact ⟨3, by decide, h3, fun Q hQ => by rcases (show Q = 0 ∨ Q = 1 ∨ Q = 2 by omega) with rfl | rfl | rfl <;> assumption⟩
      · exact ⟨2, by decide, h2, fun Q hQ => by rcases (show Q = 0 ∨ Q = 1 by omega) with rfl | rfl <;> assumption⟩
    · exact ⟨1, by decide, h1, fun Q hQ => by rw [show Q = 0 by omega]; exact h0⟩
  · exact ⟨0, by decide, h0, fun Q hQ => absurd hQ (by omega)⟩

theorem sh_ex {e f a : Int} (hf : finB e f a = true) (hz : unitsV e f a ≠ 0) (w : World) : ∃ P : Nat, P < 5 ∧ shOk e f ((unitsV e f a).natAbs : Int) (a % pw (e + f)) (tenN P) = true ∧ (∀ Q, Q < P → shOk e f ((unitsV e f a).natAbs : Int) (a % pw (e + f)) (tenN Q) = false) := by
  obtain ⟨hg, s0, s1, hu⟩ := fin_size hf
  have hp0 : 0 < a % pw (e + f) := by
    rcases Int.lt_or_eq_of_le s0 with h | h
    · exact h
    · exfalso
      have : mgV f (a % pw (e + f)) = 0 := by rw [← h]; unfold mgV; simp
      omega
  obtain ⟨low, t, b1, b2, b3, b4, b5, b6⟩ := bl_ex hf hz w 4 (by decide)
  refine first_ok (fun P => shOk e f ((unitsV e f a).natAbs : Int) (a % pw (e + f)) (tenN P)) ?_
  have h5 := sh_five (e := e) (f := f) (p := a % pw (e + f)) (low := low) (t := t) hg hp0 s1
  rw [← hu] at h5
  exact h5 ⟨b1, b2, b3, b4⟩ b5 (by omega)

/-- How great digits and power are. -/
theorem so_bd {e f a : Int} (hf : finB e f a = true) (w : World) : (0 ≤ soD e f a ∧ soD e f a ≤ 999999) ∧ -14 ≤ soT e f a ∧ soT e f a ≤ 14 := by
  by_cases hz : unitsV e f a = 0
  · have e1 : soD e f a = 0 := if_pos hz
    have e2 : soT e f a = 0 := if_pos hz
    rw [e1, e2]; decide
  · have e1 : soD e f a = (shF e f ((unitsV e f a).natAbs : Int) (a % pw (e + f))).1 := if_neg hz
    have e2 : soT e f a = (shF e f ((unitsV e f a).natAbs : Int) (a % pw (e + f))).2 := if_neg hz
    obtain ⟨P, hP, hok, hno⟩ := sh_ex hf hz w
    have e3 := sh_is (e := e) (f := f) (v := ((unitsV e f a).natAbs : Int)) (p := a % pw (e + f)) ⟨P, hP, hok, hno, rfl⟩
    rw [e1, e2, e3]
    obtain ⟨low, t, b1, b2, b3, b4, b5, b6⟩ := bl_ex hf hz w P (by omega)
    have hL := tenN_pos P
    have hL1 := tenN_le (k := P) 4 10000 rfl (by omega)
    rw [show P + 1 - 1 = P from rfl] at b3 b4
    have e4 := bl_is (e := e) (f := f) (v := ((unitsV e f a).natAbs : Int)) (L := tenN P) (low := low) (t := t) (by omega) ⟨b1, b2, b3, b4⟩
    have hD : shD e f ((unitsV e f a).natAbs : Int) (a % pw (e + f)) (tenN P) = low ∨ shD e f ((unitsV e f a).natAbs : Int) (a % pw (e + f)) (tenN P) = low + 1 := by
      unfold shD; rw [e4]; split
      · right; rfl
      · left; rfl
    unfold shX adX
    rw [e4]
    split
    · exact ⟨⟨by show 0 ≤ tenN P; omega, by show tenN P ≤ 999999; omega⟩, by show -14 ≤ t + 1; omega, by show t + 1 ≤ 14; omega⟩
    · exact ⟨⟨by show 0 ≤ shD e f _ _ _; omega, by show shD e f _ _ _ ≤ 999999; omega⟩, by show -14 ≤ t; omega, by show t ≤ 14; omega⟩

theorem sgn_01 {e f p : Int} (hp : patB e f p = true) : p / pw (e + f) = 0 ∨ p / pw (e + f) = 1 := by
  obtain ⟨_, p0, p1⟩ := pat_iff.1 hp
  have := pw_pos (e + f)
  have h0 : 0 ≤ p / pw (e + f) := Int.ediv_nonneg p0 (by omega)
  have h1 : p / pw (e + f) < 2 := Int.ediv_lt_of_lt_mul (by omega) p1
  omega

/-- The shortest text. -/
noncomputable def shTx (e f a : Int) : List UInt8 := if finB e f a then sgT (a / pw (e + f)) ++ (Lib.itoa (soD e f a) ++ [101] ++ Lib.itoa (soT e f a)) else if numB e f a then sgT (a / pw (e + f)) ++ [105, 110, 102] else [110, 97, 110]

theorem str_e (a b : List UInt8) : ((⟨a.toArray⟩ : ByteArray) ++ ⟨#[101]⟩ ++ ⟨b.toArray⟩) = ⟨(a ++ [101] ++ b).toArray⟩ := by
  apply ByteArray.ext
  simp [ByteArray.data_append]

theorem str_two (a b : List UInt8) : ((⟨a.toArray⟩ : ByteArray) ++ ⟨b.toArray⟩) = ⟨(a ++ b).toArray⟩ := by
  apply ByteArray.ext
  simp [ByteArray.data_append]

/-- The text of a decimal. -/
theorem decText_any (D T : Int) (D0 : 0 ≤ D) (D1 : D ≤ 999999) (T0 : -14 ≤ T) (T1 : T ≤ 14) (w : World) (hT : TT w) : Calls Tryz.prog 88 #[two D T] w fun rv w' => rv = .returned (.string ⟨(Lib.itoa D ++ [101] ++ Lib.itoa T).toArray⟩) ∧ Ext w w' := by
  have L1 := Lib.hid (fun w hT => itoa_any D (by omega) (by omega) w hT)
  have L2 := Lib.hid (fun w hT => itoa_any T (by omega) (by omega) w hT)
  have l1 := itoa_len (n := D) (by omega) (by omega)
  have l2 := itoa_len (n := T) (by omega) (by omega)
  have c1 : ¬ 9223372036854775807 < (Lib.itoa D).length + 1 := by omega
  have c2 : ¬ 9223372036854775807 < (Lib.itoa D).length + 1 + (Lib.itoa T).length := by omega
  have hX := hT.2
  rw [← str_e]
  clear l1 l2 D0 D1 T0 T1
  generalize Lib.itoa D = x at *
  generalize Lib.itoa T = y at *
  go_enter Tryz.func88, Tryz.ntmps88
  go_wp2_with fail
  first | (go_region_with (first | (go_at_call 72; (with_reducible refine (L1.out _ (hX.ext Ext.auK)).mono ?_); rintro rv w1 ⟨rfl, hb⟩; have ns : w.heap.size < w1.heap.size := hb.ltK; have n0 : w1.cell? ⟨w.heap.size, 0, none⟩ = some (.int .i64 D) := hb.cellK; have n1 : w1.cell? ⟨w.heap.size, 1, none⟩ = some (.int .i64 T) := hb.cellK; (first | (have nx := hx.trK hb; clear hx) | have nx := hb); clear hb; try clear hs; try clear g0; try clear g1; have hx := nx; clear nx; have hs := ns; clear ns; have g0 := n0; clear n0; have g1 := n1; clear n1) | (go_at_call 72; (with_reducible refine (L2.out _ (hX.ext Ext.auK)).mono ?_); rintro rv w1 ⟨rfl, hb⟩; have ns : w.heap.size < w1.heap.size := hb.ltK; have n0 : w1.cell? ⟨w.heap.size, 0, none⟩ = some (.int .i64 D) := hb.cellK; have n1 : w1.cell? ⟨w.heap.size, 1, none⟩ = some (.int .i64 T) := hb.cellK; (first | (have nx := hx.trK hb; clear hx) | have nx := hb); clear hb; try clear hs; try clear g0; try clear g1; have hx := nx; clear nx; have hs := ns; clear ns; have g0 := n0; clear n0; have g1 := n1; clear n1))) | fail
  all_goals go_wp2_with fail
  all_goals go_ret
  all_goals exact ⟨rfl, Ext.auK⟩

theorem rep_sign (m : Int) (hm : m = 0 ∨ m = 1) (w : World) : Calls Tryz.prog 131 #[.string ⟨#[45]⟩, .int .i64 m] w fun rv w' => rv = .returned (.string ⟨(sgT m).toArray⟩) ∧ Ext w w' := by
  rcases hm with rfl | rfl
  · exact (Tryz.strings_Repeat_zero ⟨#[45]⟩ w).mono fun _ _ ⟨he, hw⟩ => ⟨he, hw ▸ Ext.refl _⟩
  · exact (Tryz.strings_Repeat_one ⟨#[45]⟩ w).mono fun _ _ ⟨he, hw⟩ => ⟨he, hw ▸ Ext.refl _⟩

theorem join_1 (bk c : Nat) (x : List UInt8) (w : World) (h0 : w.cell? ⟨bk, 0, none⟩ = some (.string ⟨x.toArray⟩)) (hbk : bk < w.heap.size) (hc : 1 ≤ c) (hl : x.length ≤ 1000) :
    Calls Tryz.prog 132 #[.slice (some ⟨bk, 0, none⟩) 1 c, .string ⟨#[]⟩] w fun rv w' => rv = .returned (.string ⟨(x).toArray⟩) ∧ Ext w w' := by
  have e1 : Lib.join ([(⟨x.toArray⟩ : ByteArray)].map (·.data.toList)) (⟨#[]⟩ : ByteArray).data.toList = x := Lib.join_one x []
  have J := Tryz.strings_Join bk 0 c [⟨x.toArray⟩] ⟨#[]⟩ w (fun j v hv => by
    rcases (show j = 0 ∨ 1 ≤ j by omega) with rfl | hj
    · rw [← Option.some.inj hv]; exact h0
    · rw [List.getElem?_eq_none (by simpa using hj)] at hv; cases hv) hbk (by simp) (by simpa using hc) (by rw [e1]; omega)
  rw [e1] at J
  exact J.mono fun _ _ ⟨he, hw⟩ => ⟨he, hw⟩

/-- A text of one part with its sign. -/
theorem signed_1 (m : Int) (hm : m = 0 ∨ m = 1) (bk c : Nat) (x : List UInt8) (w : World) (h0 : w.cell? ⟨bk, 0, none⟩ = some (.string ⟨x.toArray⟩)) (hbk : bk < w.heap.size) (hc : 1 ≤ c) (hl : x.length ≤ 1000) :
    Calls Tryz.prog 87 #[.int .i64 m, .slice (some ⟨bk, 0, none⟩) 1 c] w fun rv w' => rv = .returned (.string ⟨(sgT m ++ x).toArray⟩) ∧ Ext w w' := by
  have R1 := Lib.hid (fun w => rep_sign m hm w)
  have J1 := Lib.hid (fun w h0 hbk => join_1 bk c x w h0 hbk hc hl)
  have c1 : ¬ 9223372036854775807 < (sgT m).length + x.length := by have := sgT_length m; omega
  rw [← str_two]
  clear hm hl
  generalize sgT m = s at *
  go_enter Tryz.func87, Tryz.ntmps87
  go_wp2_with (first | (go_at_call 131; refine (R1.out _).mono ?_; rintro rv w1 ⟨rfl, hb⟩; have k0 := (hb.cells _ _ (by first | with_reducible assumption | (simp; done))).trans h0; have kl := hb.lt hbk) | (go_at_call 132; refine (J1.out _ (by first | with_reducible assumption | (simp [go_sem, *]; done)) (by first | with_reducible assumption | (simp; done) | (simp; omega))).mono ?_; rintro rv w2 ⟨rfl, hb2⟩))
  go_ret
  exact ⟨rfl, Ext.auK⟩

theorem txSigned_any (e f a : Int) (x : ByteArray) (hp : patB e f a = true) (hx : x.size ≤ 1000) (w : World) : Calls Tryz.prog 128 #[fmt e f, .int .i64 a, .string x] w fun rv w' => rv = .returned (.string ((⟨(sgT (a / pw (e + f))).toArray⟩ : ByteArray) ++ x)) ∧ Ext w w' := by
  obtain ⟨hg, p0, p1⟩ := pat_iff.1 hp
  have FS := Lib.hid (fun w => fmSign_any e f a hg p0 w)
  have c1 : ¬ 9223372036854775807 < 1 + x.size := by omega
  clear hp hg p0 p1 hx
  generalize (a / pw (e + f)) = s at *
  by_cases h : s = 1
  · have q : (s == 1) = true := by simpa using h
    have e1 : sgT s = [45] := if_pos h
    rw [e1]
    clear h e1
    go_enter Tryz.func128, Tryz.ntmps128
    go_wp2_with (go_at_call 106; refine (FS.out _).mono ?_; rintro rv w1 ⟨rfl, hb⟩; have ns : w.heap.size < w1.heap.size := hb.ltK; have n0 : w1.cell? ⟨w.heap.size, 0, none⟩ = some (.int .i64 e) := hb.cellK; have n1 : w1.cell? ⟨w.heap.size, 1, none⟩ = some (.int .i64 f) := hb.cellK; (first | (have nx := hx.trK hb; clear hx) | have nx := hb); clear hb; try clear hs; try clear g0; try clear g1; have hx := nx; clear nx; have hs := ns; clear ns; have g0 := n0; clear n0; have g1 := n1; clear n1)
    go_ret
    exact ⟨rfl, Ext.auK⟩
  · have q : (s == 1) = false := by simpa using h
    have e1 : sgT s = [] := if_neg h
    have e2 : ((⟨([] : List UInt8).toArray⟩ : ByteArray) ++ x) = x := by
      apply ByteArray.ext
      simp [ByteArray.data_append]
    rw [e1, e2]
    clear h e1 e2
    go_enter Tryz.func128, Tryz.ntmps128
    go_wp2_with (go_at_call 106; refine (FS.out _).mono ?_; rintro rv w1 ⟨rfl, hb⟩; have ns : w.heap.size < w1.heap.size := hb.ltK; have n0 : w1.cell? ⟨w.heap.size, 0, none⟩ = some (.int .i64 e) := hb.cellK; have n1 : w1.cell? ⟨w.heap.size, 1, none⟩ = some (.int .i64 f) := hb.cellK; (first | (have nx := hx.trK hb; clear hx) | have nx := hb); clear hb; try clear hs; try clear g0; try clear g1; have hx := nx; clear nx; have hs := ns; clear ns; have g0 := n0; clear n0; have g1 := n1; clear n1)
    go_ret
    exact ⟨rfl, Ext.auK⟩

theorem iShortestText_no (e f a : Int) (hg : patB e f a = false) (w : World) : Calls Tryz.prog 37 #[fmt e f, .int .i64 a] w fun rv w' => rv = .returned (.tuple #[.string ⟨#[]⟩, .bool false]) ∧ Ext w w' := by
  have IP := fun w => isPattern_any e f a w
  rw [hg] at IP
  have IP := Lib.hid IP
  clear hg
  go_enter Tryz.func37, Tryz.ntmps37
  go_wp2_with (go_at_call 58; refine (IP.out _).mono ?_; rintro rv w1 ⟨rfl, hb⟩; have ns : w.heap.size < w1.heap.size := hb.ltK; have n0 : w1.cell? ⟨w.heap.size, 0, none⟩ = some (.int .i64 e) := hb.cellK; have n1 : w1.cell? ⟨w.heap.size, 1, none⟩ = some (.int .i64 f) := hb.cellK; (first | (have nx := hx.trK hb; clear hx) | have nx := hb); clear hb; try clear hs; try clear g0; try clear g1; have hx := nx; clear nx; have hs := ns; clear ns; have g0 := n0; clear n0; have g1 := n1; clear n1)
  go_ret2
  exact ⟨rfl, Ext.auK⟩

theorem sShortestText_no (e f a : Int) (hg : patB e f a = false) (w : World) : Calls Tryz.prog 36 #[fmt e f, .int .i64 a] w fun rv w' => rv = .returned (.tuple #[.string ⟨#[]⟩, .bool false]) ∧ Ext w w' := by
  have IP := fun w => fmIs_any e f a w
  rw [hg] at IP
  have IP := Lib.hid IP
  clear hg
  go_enter Tryz.func36, Tryz.ntmps36
  go_wp2_with (go_at_call 85; refine (IP.out _).mono ?_; rintro rv w1 ⟨rfl, hb⟩; have ns : w.heap.size < w1.heap.size := hb.ltK; have n0 : w1.cell? ⟨w.heap.size, 0, none⟩ = some (.int .i64 e) := hb.cellK; have n1 : w1.cell? ⟨w.heap.size, 1, none⟩ = some (.int .i64 f) := hb.cellK; (first | (have nx := hx.trK hb; clear hx) | have nx := hb); clear hb; try clear hs; try clear g0; try clear g1; have hx := nx; clear nx; have hs := ns; clear ns; have g0 := n0; clear n0; have g1 := n1; clear n1)
  go_ret2
  exact ⟨rfl, Ext.auK⟩

set_option maxHeartbeats 3200000 in
theorem iShortestText_fin (e f a : Int) (hg : patB e f a = true) (hf : finB e f a = true) (w : World) (hT : TT w) : Calls Tryz.prog 37 #[fmt e f, .int .i64 a] w fun rv w' => rv = .returned (.tuple #[.string ⟨(sgT (a / pw (e + f)) ++ (Lib.itoa (soD e f a) ++ [101] ++ Lib.itoa (soT e f a))).toArray⟩, .bool true]) ∧ Ext w w' := by
  have IP := fun w => isPattern_any e f a w
  rw [hg] at IP
  have IP := Lib.hid IP
  obtain ⟨⟨D0, D1⟩, T0, T1⟩ := so_bd hf w
  have l1 := itoa_len (n := soD e f a) (by omega) (by omega)
  have l2 := itoa_len (n := soT e f a) (by omega) (by omega)
  have OP := Lib.hid (fun w (hT : TT w) => operandOf_fin e f a hf w hT.1)
  have SH := Lib.hid (fun w => shortest_so e f a hf w)
  have DT := Lib.hid (fun w hT => decText_any (soD e f a) (soT e f a) D0 D1 T0 T1 w hT)
  have SGN := Lib.hid (fun bk c w h0 h1 h2 => signed_1 (a / pw (e + f)) (sgn_01 hg) bk c (Lib.itoa (soD e f a) ++ [101] ++ Lib.itoa (soT e f a)) w h0 h1 h2 (by simp; omega))
  clear hg hf l1 l2 D0 D1 T0 T1
  generalize Lib.itoa (soD e f a) ++ [101] ++ Lib.itoa (soT e f a) = tx at *
  generalize soD e f a = D at *
  generalize soT e f a = T at *
  generalize (a / pw (e + f)) = G at *
  generalize ((odV (unitsV e f a)).natAbs : Int) = N at *
  generalize (shE (unitsV e f a) (unV e f)) = X at *
  go_enter Tryz.func37, Tryz.ntmps37
  go_wp2_with (first | (go_at_call 58; refine (IP.out _).mono ?_; rintro rv w1 ⟨rfl, hb⟩; have ns : w.heap.size < w1.heap.size := hb.ltK; have n0 : w1.cell? ⟨w.heap.size, 0, none⟩ = some (.int .i64 e) := hb.cellK; have n1 : w1.cell? ⟨w.heap.size, 1, none⟩ = some (.int .i64 f) := hb.cellK; (first | (have nx := hx.trK hb; clear hx) | have nx := hb); clear hb; try clear hs; try clear g0; try clear g1; have hx := nx; clear nx; have hs := ns; clear ns; have g0 := n0; clear n0; have g1 := n1; clear n1) | (go_at_call 61; refine (OP.out _ (hT.ext Ext.auK)).mono ?_; rintro rv w1 ⟨rfl, hb⟩; have ns : w.heap.size < w1.heap.size := hb.ltK; have n0 : w1.cell? ⟨w.heap.size, 0, none⟩ = some (.int .i64 e) := hb.cellK; have n1 : w1.cell? ⟨w.heap.size, 1, none⟩ = some (.int .i64 f) := hb.cellK; (first | (have nx := hx.trK hb; clear hx) | have nx := hb); clear hb; try clear hs; try clear g0; try clear g1; have hx := nx; clear nx; have hs := ns; clear ns; have g0 := n0; clear n0; have g1 := n1; clear n1))
  go_region_held3 (fun w' => w'.cell? ⟨w.heap.size, 0, none⟩ = some (.int .i64 e) ∧ w'.cell? ⟨w.heap.size, 1, none⟩ = some (.int .i64 f) ∧ w'.cell? ⟨w1.heap.size, 0, none⟩ = some (.int .i64 G) ∧ w'.cell? ⟨w1.heap.size, 1, none⟩ = some (.int .i64 N) ∧ w'.cell? ⟨w1.heap.size, 2, none⟩ = some (.int .i64 X) ∧ w1.heap.size < w'.heap.size) ((refine ⟨?_, ?_, ?_, ?_, ?_, ?_⟩ <;> first | with_reducible assumption | ((repeat first | rw [cell_set_far _ _ _ _ _ _ (by omega)] | rw [cell_alloc_before _ _ _ _ (by omega)] | rw [cell_alloc_drew _ _ _ _ (by omega)] | rw [cell_drew]); with_reducible assumption) | ((rw [cell_setRow_far _ _ _ _ _ (by omega)]); with_reducible assumption) | ((rw [setRow_size]); with_reducible assumption) | (simp; done) | (simp [World.setCell]; first | done | omega) | (simp [go_sem, World.cell?_alloc_past, World.cell?_setCell_far, *]; done))) ((first | (go_at_call 67; refine (SH.out _).mono ?_; rintro rv w2 ⟨rfl, hb⟩; have ns : w1.heap.size < w2.heap.size := hb.ltK; have n0 : w2.cell? ⟨w.heap.size, 0, none⟩ = some (.int .i64 e) := hb.cellK; have n1 : w2.cell? ⟨w.heap.size, 1, none⟩ = some (.int .i64 f) := hb.cellK; have n2 : w2.cell? ⟨w1.heap.size, 0, none⟩ = some (.int .i64 G) := hb.cellK; have n3 : w2.cell? ⟨w1.heap.size, 1, none⟩ = some (.int .i64 N) := hb.cellK; have n4 : w2.cell? ⟨w1.heap.size, 2, none⟩ = some (.int .i64 X) := hb.cellK; (first | (have nx := hx.trK hb; clear hx) | have nx := hb); clear hb; try clear hs; try clear g0; try clear g1; try clear g2; try clear g3; try clear g4; have hx := nx; clear nx; have hs := ns; clear ns; have g0 := n0; clear n0; have g1 := n1; clear n1; have g2 := n2; clear n2; have g3 := n3; clear n3; have g4 := n4; clear n4) | (go_at_call 88; refine (DT.out _ (hT.ext Ext.auK)).mono ?_; rintro rv w2 ⟨rfl, hb⟩; have ns : w1.heap.size < w2.heap.size := hb.ltK; have n0 : w2.cell? ⟨w.heap.size, 0, none⟩ = some (.int .i64 e) := hb.cellK; have n1 : w2.cell? ⟨w.heap.size, 1, none⟩ = some (.int .i64 f) := hb.cellK; have n2 : w2.cell? ⟨w1.heap.size, 0, none⟩ = some (.int .i64 G) := hb.cellK; have n3 : w2.cell? ⟨w1.heap.size, 1, none⟩ = some (.int .i64 N) := hb.cellK; have n4 : w2.cell? ⟨w1.heap.size, 2, none⟩ = some (.int .i64 X) := hb.cellK; (first | (have nx := hx.trK hb; clear hx) | have nx := hb); clear hb; try clear hs; try clear g0; try clear g1; try clear g2; try clear g3; try clear g4; have hx := nx; clear nx; have hs := ns; clear ns; have g0 := n0; clear n0; have g1 := n1; clear n1; have g2 := n2; clear n2; have g3 := n3; clear n3; have g4 := n4; clear n4) | (go_at_call 87; refine (SGN.out _ _ _ (by first | with_reducible assumption | (simp [go_sem]; done) | (simp [go_sem, *]; done)) (by first | (simp; done) | (simp; omega)) (by first | omega | decide | (simp; done))).mono ?_; rintro rv w2 ⟨rfl, hb⟩; have ns : w1.heap.size < w2.heap.size := hb.ltK; have n0 : w2.cell? ⟨w.heap.size, 0, none⟩ = some (.int .i64 e) := hb.cellK; have n1 : w2.cell? ⟨w.heap.size, 1, none⟩ = some (.int .i64 f) := hb.cellK; have n2 : w2.cell? ⟨w1.heap.size, 0, none⟩ = some (.int .i64 G) := hb.cellK; have n3 : w2.cell? ⟨w1.heap.size, 1, none⟩ = some (.int .i64 N) := hb.cellK; have n4 : w2.cell? ⟨w1.heap.size, 2, none⟩ = some (.int .i64 X) := hb.cellK; (first | (have nx := hx.trK hb; clear hx) | have nx := hb); clear hb; try clear hs; try clear g0; try clear g1; try clear g2; try clear g3; try clear g4; have hx := nx; clear nx; have hs := ns; clear ns; have g0 := n0; clear n0; have g1 := n1; clear n1; have g2 := n2; clear n2; have g3 := n3; clear n3; have g4 := n4; clear n4)))
  all_goals (try go_wp2_with fail)
  all_goals exact bodyPost_ret (v := .tuple #[.string ⟨(sgT G ++ tx).toArray⟩, .bool true]) (by simp [results, Tryz.results37, go_sem, *]) rfl ⟨rfl, Ext.auK⟩

set_option maxHeartbeats 3200000 in
theorem iShortestText_inf (e f a : Int) (hg : patB e f a = true) (hf : finB e f a = false) (hn : numB e f a = true) (w : World) (hT : TT w) : Calls Tryz.prog 37 #[fmt e f, .int .i64 a] w fun rv w' => rv = .returned (.tuple #[.string ⟨(sgT (a / pw (e + f)) ++ [105, 110, 102]).toArray⟩, .bool true]) ∧ Ext w w' := by
  have IP := fun w => isPattern_any e f a w
  rw [hg] at IP
  have IP := Lib.hid IP
  have OP := Lib.hid (fun w => operandOf_inf e f a hg hf hn w)
  have SGN := Lib.hid (fun bk c w h0 h1 h2 => signed_1 (a / pw (e + f)) (sgn_01 hg) bk c [105, 110, 102] w h0 h1 h2 (by decide))
  clear hg hf hn
  generalize (a / pw (e + f)) = G at *
  go_enter Tryz.func37, Tryz.ntmps37
  go_wp2_with (first | (go_at_call 58; refine (IP.out _).mono ?_; rintro rv w1 ⟨rfl, hb⟩; have ns : w.heap.size < w1.heap.size := hb.ltK; have n0 : w1.cell? ⟨w.heap.size, 0, none⟩ = some (.int .i64 e) := hb.cellK; have n1 : w1.cell? ⟨w.heap.size, 1, none⟩ = some (.int .i64 f) := hb.cellK; (first | (have nx := hx.trK hb; clear hx) | have nx := hb); clear hb; try clear hs; try clear g0; try clear g1; have hx := nx; clear nx; have hs := ns; clear ns; have g0 := n0; clear n0; have g1 := n1; clear n1) | (go_at_call 61; refine (OP.out _).mono ?_; rintro rv w1 ⟨rfl, hb⟩; have ns : w.heap.size < w1.heap.size := hb.ltK; have n0 : w1.cell? ⟨w.heap.size, 0, none⟩ = some (.int .i64 e) := hb.cellK; have n1 : w1.cell? ⟨w.heap.size, 1, none⟩ = some (.int .i64 f) := hb.cellK; (first | (have nx := hx.trK hb; clear hx) | have nx := hb); clear hb; try clear hs; try clear g0; try clear g1; have hx := nx; clear nx; have hs := ns; clear ns; have g0 := n0; clear n0; have g1 := n1; clear n1))
  all_goals (try go_wp2_with (first | (go_at_call 87; refine (SGN.out _ _ _ (by first | with_reducible assumption | (simp [go_sem]; done) | (simp [go_sem, *]; done)) (by first | (simp; done) | (simp; omega)) (by first | omega | decide | (simp; done))).mono ?_; rintro rv w2 ⟨rfl, hb⟩; have ns : w.heap.size < w2.heap.size := hb.ltK; have n0 : w2.cell? ⟨w.heap.size, 0, none⟩ = some (.int .i64 e) := hb.cellK; have n1 : w2.cell? ⟨w.heap.size, 1, none⟩ = some (.int .i64 f) := hb.cellK; (first | (have nx := hx.trK hb; clear hx) | have nx := hb); clear hb; try clear hs; try clear g0; try clear g1; have hx := nx; clear nx; have hs := ns; clear ns; have g0 := n0; clear n0; have g1 := n1; clear n1)))
  all_goals exact bodyPost_ret (v := .tuple #[.string ⟨(sgT G ++ [105, 110, 102]).toArray⟩, .bool true]) (by simp [results, Tryz.results37, go_sem, *]) rfl ⟨rfl, Ext.auK⟩

theorem iShortestText_nan (e f a : Int) (hg : patB e f a = true) (hn : numB e f a = false) (w : World) (hT : TT w) : Calls Tryz.prog 37 #[fmt e f, .int .i64 a] w fun rv w' => rv = .returned (.tuple #[.string ⟨[110, 97, 110].toArray⟩, .bool true]) ∧ Ext w w' := by
  have IP := fun w => isPattern_any e f a w
  rw [hg] at IP
  have IP := Lib.hid IP
  have OP := Lib.hid (fun w => operandOf_no e f a hg hn w)
  clear hg hn
  go_enter Tryz.func37, Tryz.ntmps37
  go_wp2_with (first | (go_at_call 58; refine (IP.out _).mono ?_; rintro rv w1 ⟨rfl, hb⟩; have ns : w.heap.size < w1.heap.size := hb.ltK; have n0 : w1.cell? ⟨w.heap.size, 0, none⟩ = some (.int .i64 e) := hb.cellK; have n1 : w1.cell? ⟨w.heap.size, 1, none⟩ = some (.int .i64 f) := hb.cellK; (first | (have nx := hx.trK hb; clear hx) | have nx := hb); clear hb; try clear hs; try clear g0; try clear g1; have hx := nx; clear nx; have hs := ns; clear ns; have g0 := n0; clear n0; have g1 := n1; clear n1) | (go_at_call 61; refine (OP.out _).mono ?_; rintro rv w1 ⟨rfl, hb⟩; have ns : w.heap.size < w1.heap.size := hb.ltK; have n0 : w1.cell? ⟨w.heap.size, 0, none⟩ = some (.int .i64 e) := hb.cellK; have n1 : w1.cell? ⟨w.heap.size, 1, none⟩ = some (.int .i64 f) := hb.cellK; (first | (have nx := hx.trK hb; clear hx) | have nx := hb); clear hb; try clear hs; try clear g0; try clear g1; have hx := nx; clear nx; have hs := ns; clear ns; have g0 := n0; clear n0; have g1 := n1; clear n1))
  go_ret2
  exact ⟨rfl, Ext.auK⟩

theorem iShortestText_yes (e f a : Int) (hg : patB e f a = true) (w : World) (hT : TT w) : Calls Tryz.prog 37 #[fmt e f, .int .i64 a] w fun rv w' => rv = .returned (.tuple #[.string ⟨(shTx e f a).toArray⟩, .bool true]) ∧ Ext w w' := by
  unfold shTx
  cases hf : finB e f a
  · cases hn : numB e f a
    · exact iShortestText_nan e f a hg hn w hT
    · exact iShortestText_inf e f a hg hf hn w hT
  · exact iShortestText_fin e f a hg hf w hT

theorem sTxText_nan (e f a : Int) (hg : patB e f a = true) (hn : numB e f a = false) (w : World) : Calls Tryz.prog 86 #[fmt e f, .int .i64 a] w fun rv w' => rv = .returned (.string ⟨([110, 97, 110]).toArray⟩) ∧ Ext w w' := by
  have KI := fun w => fmKind_any e f a hg w
  have h4 : kindV e f a = 4 := by
    have := (kind_lt e f a hg).2
    rw [hn, decide_eq_false_iff_not] at this
    have ku := (kind_units hg).2.2
    omega
  rw [h4] at KI
  have KI := Lib.hid KI
  clear hg hn h4
  go_enter Tryz.func86, Tryz.ntmps86
  go_wp2_with (go_at_call 100; refine (KI.out _).mono ?_; rintro rv w1 ⟨rfl, hb⟩; have ns : w.heap.size < w1.heap.size := hb.ltK; have n0 : w1.cell? ⟨w.heap.size, 0, none⟩ = some (.int .i64 e) := hb.cellK; have n1 : w1.cell? ⟨w.heap.size, 1, none⟩ = some (.int .i64 f) := hb.cellK; (first | (have nx := hx.trK hb; clear hx) | have nx := hb); clear hb; try clear hs; try clear g0; try clear g1; have hx := nx; clear nx; have hs := ns; clear ns; have g0 := n0; clear n0; have g1 := n1; clear n1)
  go_ret
  exact ⟨rfl, Ext.auK⟩

theorem sTxText_inf (e f a : Int) (hg : patB e f a = true) (hf : finB e f a = false) (hn : numB e f a = true) (w : World) : Calls Tryz.prog 86 #[fmt e f, .int .i64 a] w fun rv w' => rv = .returned (.string ⟨(sgT (a / pw (e + f)) ++ [105, 110, 102]).toArray⟩) ∧ Ext w w' := by
  have KI := fun w => fmKind_any e f a hg w
  have h3 : kindV e f a = 3 := by
    obtain ⟨k1, k2⟩ := kind_lt e f a hg
    rw [hn, decide_eq_true_eq] at k2
    rw [hf, decide_eq_false_iff_not] at k1
    omega
  rw [h3] at KI
  have KI := Lib.hid KI
  have SG := Lib.hid (fun w => txSigned_any e f a ⟨#[105, 110, 102]⟩ hg (by decide) w)
  have es : ((⟨(sgT (a / pw (e + f))).toArray⟩ : ByteArray) ++ ⟨#[105, 110, 102]⟩) = ⟨(sgT (a / pw (e + f)) ++ [105, 110, 102]).toArray⟩ := str_two _ [105, 110, 102]
  rw [← es]
  clear hg hf hn h3 es
  generalize sgT (a / pw (e + f)) = s at *
  go_enter Tryz.func86, Tryz.ntmps86
  go_wp2_with (first | (go_at_call 100; refine (KI.out _).mono ?_; rintro rv w1 ⟨rfl, hb⟩; have ns : w.heap.size < w1.heap.size := hb.ltK; have n0 : w1.cell? ⟨w.heap.size, 0, none⟩ = some (.int .i64 e) := hb.cellK; have n1 : w1.cell? ⟨w.heap.size, 1, none⟩ = some (.int .i64 f) := hb.cellK; (first | (have nx := hx.trK hb; clear hx) | have nx := hb); clear hb; try clear hs; try clear g0; try clear g1; have hx := nx; clear nx; have hs := ns; clear ns; have g0 := n0; clear n0; have g1 := n1; clear n1) | (go_at_call 128; refine (SG.out _).mono ?_; rintro rv w1 ⟨rfl, hb⟩; have ns : w.heap.size < w1.heap.size := hb.ltK; have n0 : w1.cell? ⟨w.heap.size, 0, none⟩ = some (.int .i64 e) := hb.cellK; have n1 : w1.cell? ⟨w.heap.size, 1, none⟩ = some (.int .i64 f) := hb.cellK; (first | (have nx := hx.trK hb; clear hx) | have nx := hb); clear hb; try clear hs; try clear g0; try clear g1; have hx := nx; clear nx; have hs := ns; clear ns; have g0 := n0; clear n0; have g1 := n1; clear n1))
  go_ret
  exact ⟨rfl, Ext.auK⟩

set_option maxHeartbeats 3200000 in
theorem sTxText_fin (e f a : Int) (hg : patB e f a = true) (hf : finB e f a = true) (w : World) : Calls Tryz.prog 86 #[fmt e f, .int .i64 a] w fun rv w' => rv = .returned (.string ⟨(sgT (a / pw (e + f)) ++ (Lib.itoa (soD e f a) ++ [101] ++ Lib.itoa (soT e f a))).toArray⟩) ∧ Ext w w' := by
  have KI := fun w => fmKind_any e f a hg w
  have ku := kind_units hg
  have hk : kindV e f a < 3 := of_decide_eq_true (by rw [kind_lt3 hg]; exact hf)
  by_cases hz : unitsV e f a = 0
  · have e1 : soD e f a = 0 := if_pos hz
    have e2 : soT e f a = 0 := if_pos hz
    have hk0 : kindV e f a = 0 := by
      rcases ku.2.2 with ⟨k0, k4⟩
      rcases Int.lt_or_eq_of_le k0 with g | g
      · exact absurd hz (ku.2.1 (by omega))
      · exact g.symm
    rw [hk0] at KI
    rw [e1, e2]
    have KI := Lib.hid KI
    have i0 : Lib.itoa 0 ++ [101] ++ Lib.itoa 0 = [48, 101, 48] := by decide +kernel
    rw [i0]
    have SG := Lib.hid (fun w => txSigned_any e f a ⟨#[48, 101, 48]⟩ hg (by decide) w)
    have es : ((⟨(sgT (a / pw (e + f))).toArray⟩ : ByteArray) ++ ⟨#[48, 101, 48]⟩) = ⟨(sgT (a / pw (e + f)) ++ [48, 101, 48]).toArray⟩ := str_two _ [48, 101, 48]
    rw [← es]
    clear hg hf hz e1 e2 hk0 hk ku es i0
    generalize sgT (a / pw (e + f)) = s at *
    go_enter Tryz.func86, Tryz.ntmps86
    go_wp2_with (first | (go_at_call 100; refine (KI.out _).mono ?_; rintro rv w1 ⟨rfl, hb⟩; have ns : w.heap.size < w1.heap.size := hb.ltK; have n0 : w1.cell? ⟨w.heap.size, 0, none⟩ = some (.int .i64 e) := hb.cellK; have n1 : w1.cell? ⟨w.heap.size, 1, none⟩ = some (.int .i64 f) := hb.cellK; (first | (have nx := hx.trK hb; clear hx) | have nx := hb); clear hb; try clear hs; try clear g0; try clear g1; have hx := nx; clear nx; have hs := ns; clear ns; have g0 := n0; clear n0; have g1 := n1; clear n1) | (go_at_call 128; refine (SG.out _).mono ?_; rintro rv w1 ⟨rfl, hb⟩; have ns : w.heap.size < w1.heap.size := hb.ltK; have n0 : w1.cell? ⟨w.heap.size, 0, none⟩ = some (.int .i64 e) := hb.cellK; have n1 : w1.cell? ⟨w.heap.size, 1, none⟩ = some (.int .i64 f) := hb.cellK; (first | (have nx := hx.trK hb; clear hx) | have nx := hb); clear hb; try clear hs; try clear g0; try clear g1; have hx := nx; clear nx; have hs := ns; clear ns; have g0 := n0; clear n0; have g1 := n1; clear n1))
    go_ret
    exact ⟨rfl, Ext.auK⟩
  · obtain ⟨⟨D0, D1⟩, T0, T1⟩ := so_bd hf w
    have e1 : soD e f a = (shF e f ((unitsV e f a).natAbs : Int) (a % pw (e + f))).1 := if_neg hz
    have e2 : soT e f a = (shF e f ((unitsV e f a).natAbs : Int) (a % pw (e + f))).2 := if_neg hz
    have TS := fun w => txShort_any e f a hf hz w
    rw [← e1, ← e2] at TS
    have hk0 : ¬ kindV e f a = 0 := fun h => hz (ku.1 h)
    have q0 : (kindV e f a == 0) = false := by simpa using hk0
    have q3 : (kindV e f a == 3) = false := by rw [beq_eq_false_iff_ne]; omega
    have q4 : (kindV e f a == 4) = false := by rw [beq_eq_false_iff_ne]; omega
    have LN := fun w => l1Num_any (soD e f a).toNat (by omega) w
    rw [show (((soD e f a).toNat : Nat) : Int) = soD e f a by omega, ← itoa_pos (by omega)] at LN
    have RI := fun w => rdInt_any (soT e f a) (by omega) (by omega) w
    have l1 := itoa_len (n := soD e f a) (by omega) (by omega)
    have l2 := itoa_len (n := soT e f a) (by omega) (by omega)
    have SG := fun w => txSigned_any e f a (⟨(Lib.itoa (soD e f a)).toArray⟩ ++ ⟨#[101]⟩ ++ ⟨(Lib.itoa (soT e f a)).toArray⟩) hg (by rw [str_e]; show (_ : Array UInt8).size ≤ 1000; simp; omega) w
    have es : (((⟨(sgT (a / pw (e + f))).toArray⟩ : ByteArray)) ++ (⟨(Lib.itoa (soD e f a)).toArray⟩ ++ ⟨#[101]⟩ ++ ⟨(Lib.itoa (soT e f a)).toArray⟩)) = ⟨(sgT (a / pw (e + f)) ++ (Lib.itoa (soD e f a) ++ [101] ++ Lib.itoa (soT e f a))).toArray⟩ := by rw [str_e, str_two]
    rw [← es]
    have c1 : ¬ 9223372036854775807 < (Lib.itoa (soD e f a)).length + 1 := by omega
    have c2 : ¬ 9223372036854775807 < (Lib.itoa (soD e f a)).length + 1 + (Lib.itoa (soT e f a)).length := by omega
    clear hg hf hz e1 e2 hk0 hk ku D0 D1 T0 T1 es l1 l2
    generalize sgT (a / pw (e + f)) = s at *
    generalize Lib.itoa (soD e f a) = x at *
    generalize Lib.itoa (soT e f a) = y at *
    generalize soD e f a = D at *
    generalize soT e f a = T at *
    generalize kindV e f a = k at *
    have LN := Lib.hid LN
    have RI := Lib.hid RI
    have SG := Lib.hid SG
    have TS := Lib.hid TS
    have KI := Lib.hid KI
    go_enter Tryz.func86, Tryz.ntmps86
    go_wp2_with (first | (go_at_call 100; refine (KI.out _).mono ?_; rintro rv w1 ⟨rfl, hb⟩; have ns : w.heap.size < w1.heap.size := hb.ltK; have n0 : w1.cell? ⟨w.heap.size, 0, none⟩ = some (.int .i64 e) := hb.cellK; have n1 : w1.cell? ⟨w.heap.size, 1, none⟩ = some (.int .i64 f) := hb.cellK; (first | (have nx := hx.trK hb; clear hx) | have nx := hb); clear hb; try clear hs; try clear g0; try clear g1; have hx := nx; clear nx; have hs := ns; clear ns; have g0 := n0; clear n0; have g1 := n1; clear n1) | (go_at_call 65; refine (TS.out _).mono ?_; rintro rv w1 ⟨rfl, hb⟩; have ns : w.heap.size < w1.heap.size := hb.ltK; have n0 : w1.cell? ⟨w.heap.size, 0, none⟩ = some (.int .i64 e) := hb.cellK; have n1 : w1.cell? ⟨w.heap.size, 1, none⟩ = some (.int .i64 f) := hb.cellK; (first | (have nx := hx.trK hb; clear hx) | have nx := hb); clear hb; try clear hs; try clear g0; try clear g1; have hx := nx; clear nx; have hs := ns; clear ns; have g0 := n0; clear n0; have g1 := n1; clear n1))
    all_goals (try (first | (go_region_with (first | (go_at_call 129; refine (LN.out _).mono ?_; rintro rv w1 ⟨rfl, hb⟩; have ns : w.heap.size < w1.heap.size := hb.ltK; have n0 : w1.cell? ⟨w.heap.size, 0, none⟩ = some (.int .i64 e) := hb.cellK; have n1 : w1.cell? ⟨w.heap.size, 1, none⟩ = some (.int .i64 f) := hb.cellK; (first | (have nx := hx.trK hb; clear hx) | have nx := hb); clear hb; try clear hs; try clear g0; try clear g1; have hx := nx; clear nx; have hs := ns; clear ns; have g0 := n0; clear n0; have g1 := n1; clear n1) | (go_at_call 130; refine (RI.out _).mono ?_; rintro rv w1 ⟨rfl, hb⟩; have ns : w.heap.size < w1.heap.size := hb.ltK; have n0 : w1.cell? ⟨w.heap.size, 0, none⟩ = some (.int .i64 e) := hb.cellK; have n1 : w1.cell? ⟨w.heap.size, 1, none⟩ = some (.int .i64 f) := hb.cellK; (first | (have nx := hx.trK hb; clear hx) | have nx := hb); clear hb; try clear hs; try clear g0; try clear g1; have hx := nx; clear nx; have hs := ns; clear ns; have g0 := n0; clear n0; have g1 := n1; clear n1) | (go_at_call 128; refine (SG.out _).mono ?_; rintro rv w1 ⟨rfl, hb⟩; have ns : w.heap.size < w1.heap.size := hb.ltK; have n0 : w1.cell? ⟨w.heap.size, 0, none⟩ = some (.int .i64 e) := hb.cellK; have n1 : w1.cell? ⟨w.heap.size, 1, none⟩ = some (.int .i64 f) := hb.cellK; (first | (have nx := hx.trK hb; clear hx) | have nx := hb); clear hb; try clear hs; try clear g0; try clear g1; have hx := nx; clear nx; have hs := ns; clear ns; have g0 := n0; clear n0; have g1 := n1; clear n1))) | fail))
    all_goals (try go_wp2_with fail)
    all_goals go_ret
    all_goals exact ⟨rfl, Ext.auK⟩

theorem sShortestText_yes (e f a : Int) (hg : patB e f a = true) (w : World) : Calls Tryz.prog 36 #[fmt e f, .int .i64 a] w fun rv w' => rv = .returned (.tuple #[.string ⟨(shTx e f a).toArray⟩, .bool true]) ∧ Ext w w' := by
  have IP := fun w => fmIs_any e f a w
  rw [hg] at IP
  have IP := Lib.hid IP
  have TX : ∀ w, Calls Tryz.prog 86 #[fmt e f, .int .i64 a] w fun rv w' => rv = .returned (.string ⟨(shTx e f a).toArray⟩) ∧ Ext w w' := by
    intro w
    unfold shTx
    cases hf : finB e f a
    · cases hn : numB e f a
      · exact sTxText_nan e f a hg hn w
      · exact sTxText_inf e f a hg hf hn w
    · exact sTxText_fin e f a hg hf w
  have TX := Lib.hid TX
  clear hg
  generalize shTx e f a = tx at *
  go_enter Tryz.func36, Tryz.ntmps36
  go_wp2_with (first | (go_at_call 85; refine (IP.out _).mono ?_; rintro rv w1 ⟨rfl, hb⟩; have ns : w.heap.size < w1.heap.size := hb.ltK; have n0 : w1.cell? ⟨w.heap.size, 0, none⟩ = some (.int .i64 e) := hb.cellK; have n1 : w1.cell? ⟨w.heap.size, 1, none⟩ = some (.int .i64 f) := hb.cellK; (first | (have nx := hx.trK hb; clear hx) | have nx := hb); clear hb; try clear hs; try clear g0; try clear g1; have hx := nx; clear nx; have hs := ns; clear ns; have g0 := n0; clear n0; have g1 := n1; clear n1) | (go_at_call 86; refine (TX.out _).mono ?_; rintro rv w1 ⟨rfl, hb⟩; have ns : w.heap.size < w1.heap.size := hb.ltK; have n0 : w1.cell? ⟨w.heap.size, 0, none⟩ = some (.int .i64 e) := hb.cellK; have n1 : w1.cell? ⟨w.heap.size, 1, none⟩ = some (.int .i64 f) := hb.cellK; (first | (have nx := hx.trK hb; clear hx) | have nx := hb); clear hb; try clear hs; try clear g0; try clear g1; have hx := nx; clear nx; have hs := ns; clear ns; have g0 := n0; clear n0; have g1 := n1; clear n1))
  go_ret2
  exact ⟨rfl, Ext.auK⟩
end Go.Proofs.YtfgbndjhaiigbacGreatDoor

