/-
  Contracts of the functions that the laws reach, and the plain facts that they rest on, each under the conditions that its line names; part 27.
-/
import Derived.Test.YtfgbndjhaiigbabDoorKxh1
import Derived.Test.YtfgbndjhaiigbabDoorKxh2
import Derived.Test.YtfgbndjhaiigbabDoorKxh3
import Derived.Test.YtfgbndjhaiigbabDoorKxh4
import Derived.Test.YtfgbndjhaiigbabDoorKxh5
import Derived.Test.YtfgbndjhaiigbabDoorKxh22
import Derived.Test.YtfgbndjhaiigbabDoorKxh23
import Derived.Test.YtfgbndjhaiigbabDoorKxh24
import Derived.Test.YtfgbndjhaiigbabDoorRows
import Derived.WalkKit
import Derived.LoopTactic
import Derived.LoopN
import Derived.Laws.OwnMore
import Derived.OwnWalk
import Derived.Deep.AppendLies
import Derived.Deep.LoopGhost
import Derived.Laws.Bits64b
import Derived.WalkSpells
import Derived.WalkLawsBesides
import Derived.StillTactics
import Derived.Laws.Pointers
import Derived.Deep.RegionHeld3
import Derived.Deep.QuietTactic
import Derived.BigQuiet
import Derived.Outline
import Derived.Lib.Hide
import Derived.RowKit3
import Derived.Carry
import Derived.IntWalk
import Derived.Lib.ItoaNum
import Derived.Laws.BytesString
namespace Go.Proofs.YtfgbndjhaiigbabDoor
open Go Go.RowKit
set_option linter.unusedSimpArgs false
set_option linter.unusedVariables false
set_option maxRecDepth 100000

theorem own_extP {w w' : World} {base : Nat} {e : TypeId} {size : Nat} {v : Value} {n : Nat} {xs : List Value} (h : w.ownsRow base e size v n xs) (hb : Ext w w') : w'.ownsRow base e size v n xs :=
  h.kept (row := none) ⟨hb.os, hb.tape, hb.output, hb.size, fun k hk _ => hb.block k hk⟩ (by by_cases h : v.ownBlock = none; exact Or.inl h; exact Or.inr h)

theorem ext_grownP {w W w' : World} {row : Option Nat} (hx : Ext w W) (hg : W.grownBy w' row) (hr : ∀ k, row = some k → w.heap.size ≤ k) : Ext w w' :=
  ⟨hg.os.trans hx.os, hg.tape.trans hx.tape, hg.output.trans hx.output, Nat.le_trans hx.size hg.size, fun k hk => (hg.block k (Nat.lt_of_lt_of_le hk hx.size) (fun h => by have := hr k h.symm; omega)).trans (hx.block k hk)⟩

theorem own_base {w : World} {a b : Nat} {e : TypeId} {size : Nat} {v : Value} {n : Nat} {xs : List Value} (h : w.ownsRow a e size v n xs) (hb : b ≤ a) : w.ownsRow b e size v n xs :=
  ⟨h.1, h.2.imp id (fun ⟨g, cap, cur, h1, h2, h3⟩ => ⟨g, cap, cur, h1, Nat.le_trans hb h2, h3⟩)⟩

/-- A list of numbers as a row. -/
def rwN (L : List Nat) : List Value := L.map (fun d : Nat => Value.int .i64 (d : Int))

theorem rwN_snoc (L : List Nat) (d : Nat) : rwN (L ++ [d]) = rwN L ++ [.int .i64 (d : Int)] := by unfold rwN; simp

theorem revD_len : ∀ (k m : Nat), m < 10 ^ k → (revD m).length ≤ k
  | 0, m, h => by have : m = 0 := by simpa using h
                  subst this; rw [revD_zero]; simp
  | k + 1, m, h => by
    by_cases h0 : m = 0
    · subst h0; rw [revD_zero]; simp
    · rw [revD_pos (by omega), List.length_cons]
      have := revD_len k (m / 10) (by rw [Nat.pow_succ] at h; omega)
      omega

set_option maxHeartbeats 1600000 in
theorem txOf_row (N : Nat) (h1 : N < 1000000000000000000) (w : World) : Calls Tryd.prog 153 #[.int .i64 (N : Int)] w fun rv w' => ∃ v, rv = .returned v ∧ w'.ownsRow w.heap.size 3 1 v (revD N).length (rwN (revD N)) ∧ Ext w w' := by
  obtain ⟨i, hi, hz, hsz, hby⟩ : ∃ i, Tryd.prog.info? 3 = some i ∧ i.zero = some (Value.int .i64 0) ∧ i.size = 1 ∧ i.bytes = 8 := by
    cases h : Tryd.prog.info? 3 with
    | none => exact absurd h (by have : (Tryd.prog.info? 3).isSome = true := by kernel_rfl
                                 intro h2; rw [h2] at this; cases this)
    | some i =>
      refine ⟨i, rfl, ?_, ?_, ?_⟩
      · have : (Tryd.prog.info? 3).map (·.zero) = some (some (Value.int .i64 0)) := by kernel_rfl
        rw [h] at this; exact Option.some.inj this
      · have : (Tryd.prog.info? 3).map (·.size) = some 1 := by kernel_rfl
        rw [h] at this; exact Option.some.inj this
      · have : (Tryd.prog.info? 3).map (·.bytes) = some 8 := by kernel_rfl
        rw [h] at this; exact Option.some.inj this
  have HI := Lib.hid hi; have HZ := Lib.hid hz; have HSZ := Lib.hid hsz; have HBY := Lib.hid hby; clear hi hz hsz hby
  have nl := revD_len 18 N (by simpa using h1)
  go_enter Tryd.func153, Tryd.ntmps153
  go_wp2_with fail
  go_loopw [0, 3] (fun s0 s3 wr => ∃ (m : Nat) (L : List Nat), s0 = .int .i64 (m : Int) ∧ m ≤ N ∧ L ++ revD m = revD N ∧ wr.ownsRow w.heap.size 3 1 s3 L.length (rwN L) ∧ Ext w wr) (fun x _ _ => (intOf x).toNat)
  case atStart => exact ⟨N, [], rfl, Nat.le_refl _, rfl, World.ownsRow_nil _ _ _ _, Ext.auK⟩
  case round =>
    obtain ⟨m, L, rfl, mN, hL, OWN0, hx⟩ := hrel
    have OWN := Lib.hid OWN0
    clear OWN0
    have hsz := hx.size
    have hll : L.length ≤ 18 := by
      have := congrArg List.length hL
      rw [List.length_append] at this
      omega
    by_cases hm : 0 < m
    · have q : (0 : Int) < (m : Int) := by omega
      rw [revD_pos hm] at hL
      have tm : ((m : Nat) : Int).tmod 10 = ((m % 10 : Nat) : Int) := by rw [Int.tmod_eq_emod_of_nonneg (by omega)]; omega
      have td : ((m : Nat) : Int).tdiv 10 = ((m / 10 : Nat) : Int) := by rw [Int.tdiv_eq_ediv_of_nonneg (by omega)]; omega
      have kw : IntKind.i64.wrap ((m % 10 : Nat) : Int) = ((m % 10 : Nat) : Int) := IntWalk.i64_in _ (by omega)
      have kw2 : IntKind.i64.wrap ((m / 10 : Nat) : Int) = ((m / 10 : Nat) : Int) := IntWalk.i64_in _ (by omega)
      have HL := Lib.hid hL
      clear hL
      go_wp2_with (at_builtin; (refine wpList_append_own _ rfl (.tmp 8) (.tmp 11) 29 rfl (w.heap.size) 3 i _ 1 8 Tryd.underlying29 HI.out HZ.out HSZ.out HBY.out rfl (by decide) _ (L.length) (rwN L) rfl (own_extP OWN.out (Ext.new _ _)) _ 1 1 [.int .i64 ((m % 10 : Nat) : Int)] rfl rfl (fun j u hj => by cases j with | zero => (simp at hj; subst hj; simp [go_sem, Addr.add]) | succ j => simp at hj) (by simp [Value.oneCell']) (by simp [maxLen]; omega) (by omega) (by simp; omega) ?_); intro v9 w9 OWN8 hgr _; have hx9 : Ext w w9 := ext_grownP Ext.auK hgr (fun k hk => by have := (World.ownsRow.lt OWN.out k hk).1; omega); have OWN7 : RowKit.Hid (w9.ownsRow (w.heap.size) 3 1 v9 (L.length + 1) (rwN L ++ [.int .i64 ((m % 10 : Nat) : Int)])) := OWN8; clear OWN OWN8 hgr; have OWN := OWN7; clear OWN7)
      go_roundw
      all_goals first | (simp [intOf]; done) | (simp [intOf]; omega) | exact ⟨m / 10, L ++ [m % 10], rfl, by omega, by rw [List.append_assoc]; exact HL.out, by rw [rwN_snoc, List.length_append]; exact OWN.out, hx9⟩
    · have q : ¬ (0 : Int) < (m : Int) := by omega
      have hm0 : m = 0 := by omega
      rw [hm0, revD_zero, List.append_nil] at hL
      have OW2 : RowKit.Hid (wr.ownsRow w.heap.size 3 1 u3 (revD N).length (rwN (revD N))) := Lib.hid (by rw [← hL]; exact OWN.out)
      clear hL OWN hm0
      go_wp2_with fail
      go_ret
      exact ⟨_, rfl, OW2.out, Ext.auK⟩

theorem revD_drop (V k : Nat) (hk : k < (revD V).length) : (revD V).drop k = V / 10 ^ k % 10 :: (revD V).drop (k + 1) := by
  rw [List.drop_eq_getElem_cons hk]
  have := revD_get V k hk
  rw [List.getElem?_eq_getElem hk] at this
  rw [Option.some.inj this]

set_option maxHeartbeats 3200000 in
theorem txTimes_row (V n cap g : Nat) (hn : n = (revD V).length) (h18 : n ≤ 100) (w : World) (hc : ∀ i, i < n → w.cell? ⟨g, i, none⟩ = some (.int .i64 ((V / 10 ^ i % 10 : Nat) : Int))) (hg : g < w.heap.size) :
    Calls Tryd.prog 154 #[.slice (some ⟨g, 0, none⟩) n cap, .int .i64 5] w fun rv w' => ∃ v, rv = .returned v ∧ w'.ownsRow w.heap.size 3 1 v (revD (V * 5)).length (rwN (revD (V * 5))) ∧ Ext w w' := by
  obtain ⟨i, hi, hz, hsz, hby⟩ : ∃ i, Tryd.prog.info? 3 = some i ∧ i.zero = some (Value.int .i64 0) ∧ i.size = 1 ∧ i.bytes = 8 := by
    cases h : Tryd.prog.info? 3 with
    | none => exact absurd h (by have : (Tryd.prog.info? 3).isSome = true := by kernel_rfl
                                 intro h2; rw [h2] at this; cases this)
    | some i =>
      refine ⟨i, rfl, ?_, ?_, ?_⟩
      · have : (Tryd.prog.info? 3).map (·.zero) = some (some (Value.int .i64 0)) := by kernel_rfl
        rw [h] at this; exact Option.some.inj this
      · have : (Tryd.prog.info? 3).map (·.size) = some 1 := by kernel_rfl
        rw [h] at this; exact Option.some.inj this
      · have : (Tryd.prog.info? 3).map (·.bytes) = some 8 := by kernel_rfl
        rw [h] at this; exact Option.some.inj this
  have HI := Lib.hid hi; have HZ := Lib.hid hz; have HSZ := Lib.hid hsz; have HBY := Lib.hid hby; clear hi hz hsz hby
  have tot := mulC_rev V 0
  rw [Nat.add_zero] at tot
  have HC := Lib.hid hc
  have hn1 : n ≤ (revD V).length := by omega
  have hn2 : (revD V).length ≤ n := by omega
  clear hc hn
  go_enter Tryd.func154, Tryd.ntmps154
  go_wp2_with fail
  go_loopw [11, 5, 6] (fun s11 s5 s6 wr => ∃ (k c : Nat) (L : List Nat), s11 = .int .i64 (k : Int) ∧ s6 = .int .i64 (c : Int) ∧ k ≤ n ∧ c ≤ 9 ∧ L.length = k ∧ RowKit.Hid (L ++ mulC ((revD V).drop k) c = revD (V * 5)) ∧ wr.ownsRow w.heap.size 3 1 s5 L.length (rwN L) ∧ Ext w wr) (fun x _ _ _ => n - (intOf x).toNat)
  case atStart => exact ⟨0, 0, [], rfl, rfl, by omega, by decide, rfl, Lib.hid tot, World.ownsRow_nil _ _ _ _, Ext.auK⟩
  case round =>
    clear tot
    obtain ⟨k, c, L, rfl, rfl, kn, c9, hlen, HM, OWN0, hx⟩ := hrel
    have OWN := Lib.hid OWN0
    clear OWN0
    have hsz := hx.size
    by_cases hk : k < n
    · have q : (k : Int) < (n : Int) := by omega
      have hdr := revD_drop V k (by omega)
      have hm := HM.out
      rw [hdr, mulC] at hm
      have d9 : V / 10 ^ k % 10 < 10 := Nat.mod_lt _ (by decide)
      have ck : wr.cell? ⟨g, k, none⟩ = some (.int .i64 ((V / 10 ^ k % 10 : Nat) : Int)) := (hx.cells _ _ hg).trans (HC.out k hk)
      have HM2 := Lib.hid hm
      clear hm hdr HM HC
      generalize V / 10 ^ k % 10 = d at *
      have w1 : IntKind.i64.wrap ((d : Int) * 5) = (d : Int) * 5 := IntWalk.i64_in _ (by omega)
      have w2 : IntKind.i64.wrap ((c : Int) + (d : Int) * 5) = (c : Int) + (d : Int) * 5 := IntWalk.i64_in _ (by omega)
      have tm : ((c : Int) + (d : Int) * 5).tmod 10 = (((c + d * 5) % 10 : Nat) : Int) := by rw [Int.tmod_eq_emod_of_nonneg (by omega)]; omega
      have td : ((c : Int) + (d : Int) * 5).tdiv 10 = (((c + d * 5) / 10 : Nat) : Int) := by rw [Int.tdiv_eq_ediv_of_nonneg (by omega)]; omega
      have w3 : IntKind.i64.wrap (((c + d * 5) % 10 : Nat) : Int) = (((c + d * 5) % 10 : Nat) : Int) := IntWalk.i64_in _ (by omega)
      have w4 : IntKind.i64.wrap (((c + d * 5) / 10 : Nat) : Int) = (((c + d * 5) / 10 : Nat) : Int) := IntWalk.i64_in _ (by omega)
      have w5 : IntKind.i64.wrap ((k : Int) + 1) = (k : Int) + 1 := IntWalk.i64_in _ (by omega)
      have h2 : ((k : Int)).toNat = k := by omega
      have h0 : (0 : Int) ≤ (k : Int) := by omega
      go_wp2_with (at_builtin; (refine wpList_append_own _ rfl (.tmp 20) (.tmp 23) 29 rfl (w.heap.size) 3 i _ 1 8 Tryd.underlying29 HI.out HZ.out HSZ.out HBY.out rfl (by decide) _ (L.length) (rwN L) rfl (own_extP OWN.out (Ext.new _ _)) _ 1 1 [.int .i64 (((c + d * 5) % 10 : Nat) : Int)] rfl rfl (fun j u hj => by cases j with | zero => (simp at hj; subst hj; simp [go_sem, Addr.add]) | succ j => simp at hj) (by simp [Value.oneCell']) (by simp [maxLen]; omega) (by omega) (by simp; omega) ?_); intro v9 w9 OWN8 hgr _; have hx9 : Ext w w9 := ext_grownP Ext.auK hgr (fun k hk => by have := (World.ownsRow.lt OWN.out k hk).1; omega); have OWN7 : RowKit.Hid (w9.ownsRow (w.heap.size) 3 1 v9 (L.length + 1) (rwN L ++ [.int .i64 (((c + d * 5) % 10 : Nat) : Int)])) := OWN8; clear OWN OWN8 hgr; have OWN := OWN7; clear OWN7)
      go_roundw
      all_goals first | (simp [intOf]; done) | (simp [intOf]; omega) | exact ⟨k + 1, (c + d * 5) / 10, L ++ [(c + d * 5) % 10], by first | rfl | simp, rfl, by omega, by omega, by simp; omega, Lib.hid (by rw [List.append_assoc]; exact HM2.out), by rw [rwN_snoc, List.length_append]; exact OWN.out, hx9⟩
    · have q : ¬ (k : Int) < (n : Int) := by omega
      have hm := HM.out
      rw [List.drop_of_length_le (by omega), mulC] at hm
      have HM2 := Lib.hid hm
      clear hm HM HC
      go_wp2_with fail
      go_loopw [5, 6] (fun s5 s6 wi => ∃ (c : Nat) (L : List Nat), s6 = .int .i64 (c : Int) ∧ c ≤ 9 ∧ RowKit.Hid (L ++ revD c = revD (V * 5)) ∧ L.length ≤ 101 ∧ (c = 0 ∨ L.length ≤ 100) ∧ wi.ownsRow w.heap.size 3 1 s5 L.length (rwN L) ∧ Ext w wi) (fun _ x _ => (intOf x).toNat)
      case atStart => exact ⟨c, L, rfl, c9, HM2, by omega, .inr (by omega), OWN.out, Ext.auK⟩
      case round =>
        clear HM2 OWN hlen
        obtain ⟨c, L, rfl, c9, HM, l101, l100, OWN0, hx⟩ := hrel
        have OWN := Lib.hid OWN0
        clear OWN0
        have hsz := hx.size
        by_cases hm : 0 < c
        · have q2 : (0 : Int) < (c : Int) := by omega
          have h3 := HM.out
          rw [revD_pos hm] at h3
          have tm : ((c : Nat) : Int).tmod 10 = ((c % 10 : Nat) : Int) := by rw [Int.tmod_eq_emod_of_nonneg (by omega)]; omega
          have td : ((c : Nat) : Int).tdiv 10 = ((c / 10 : Nat) : Int) := by rw [Int.tdiv_eq_ediv_of_nonneg (by omega)]; omega
          have kw : IntKind.i64.wrap ((c % 10 : Nat) : Int) = ((c % 10 : Nat) : Int) := IntWalk.i64_in _ (by omega)
          have kw2 : IntKind.i64.wrap ((c / 10 : Nat) : Int) = ((c / 10 : Nat) : Int) := IntWalk.i64_in _ (by omega)
          have HM2 := Lib.hid h3
          clear h3 HM
          have l102 : L.length ≤ 100 := by omega
          go_wp2_with (at_builtin; (refine wpList_append_own _ rfl (.tmp 30) (.tmp 33) 29 rfl (w.heap.size) 3 i _ 1 8 Tryd.underlying29 HI.out HZ.out HSZ.out HBY.out rfl (by decide) _ (L.length) (rwN L) rfl (own_extP OWN.out (Ext.new _ _)) _ 1 1 [.int .i64 ((c % 10 : Nat) : Int)] rfl rfl (fun j u hj => by cases j with | zero => (simp at hj; subst hj; simp [go_sem, Addr.add]) | succ j => simp at hj) (by simp [Value.oneCell']) (by simp [maxLen]; omega) (by omega) (by simp; omega) ?_); intro v9 w9 OWN8 hgr _; have hx9 : Ext w w9 := ext_grownP Ext.auK hgr (fun k hk => by have := (World.ownsRow.lt OWN.out k hk).1; omega); have OWN7 : RowKit.Hid (w9.ownsRow (w.heap.size) 3 1 v9 (L.length + 1) (rwN L ++ [.int .i64 ((c % 10 : Nat) : Int)])) := OWN8; clear OWN OWN8 hgr; have OWN := OWN7; clear OWN7)
          go_roundw
          all_goals first | (simp [intOf]; done) | (simp [intOf]; omega) | exact ⟨c / 10, L ++ [c % 10], rfl, by omega, Lib.hid (by rw [List.append_assoc]; exact HM2.out), by rw [List.length_append]; simp; omega, .inl (by omega), by rw [rwN_snoc, List.length_append]; exact OWN.out, hx9⟩
        · have q2 : ¬ (0 : Int) < (c : Int) := by omega
          have hc0 : c = 0 := by omega
          have h3 := HM.out
          rw [hc0, revD_zero, List.append_nil] at h3
          have OW2 : RowKit.Hid (wr.ownsRow w.heap.size 3 1 u5 (revD (V * 5)).length (rwN (revD (V * 5)))) := Lib.hid (by rw [← h3]; exact OWN.out)
          clear h3 OWN hc0 HM
          go_wp2_with fail
          go_ret
          exact ⟨_, rfl, OW2.out, Ext.auK⟩
end Go.Proofs.YtfgbndjhaiigbabDoor

namespace Go.Proofs.YtfgbndjhaiigbabDoor
open Go Go.RowKit
set_option linter.unusedSimpArgs false
set_option linter.unusedVariables false
set_option maxRecDepth 100000

def sLen : Value → Nat
  | .slice _ n _ => n
  | _ => 0

theorem pad_get (W z m : Nat) (hm : m < (revD W).length + z) : (revD W ++ List.replicate z 0)[m]? = some (W / 10 ^ m % 10) := by
  by_cases h : m < (revD W).length
  · rw [List.getElem?_append_left h]; exact revD_get W m h
  · rw [List.getElem?_append_right (by omega), List.getElem?_replicate, if_pos (by omega)]
    have h1 := revD_lt W
    have h2 : 10 ^ (revD W).length ≤ 10 ^ m := Nat.pow_le_pow_right (by decide) (by omega)
    rw [Nat.div_eq_of_lt (by omega)]

theorem rwN_get (L : List Nat) (m d : Nat) (h : L[m]? = some d) : (rwN L)[m]? = some (.int .i64 (d : Int)) := by unfold rwN; rw [List.getElem?_map, h]; rfl

theorem ba_step (b : ByteArray) (x : UInt8) (s l : List UInt8) : b ++ ⟨(x :: (s ++ l)).toArray⟩ = (b ++ ⟨[x].toArray⟩ ++ ⟨s.toArray⟩) ++ ⟨l.toArray⟩ := by
  apply ByteArray.ext
  simp [ByteArray.data_append]

theorem ba_nil (b : ByteArray) : b ++ ⟨([] : List UInt8).toArray⟩ = b := by
  apply ByteArray.ext
  simp [ByteArray.data_append]

theorem rsT_len (W k : Nat) : ∀ i, (rsT W k i).length ≤ 2 * i
  | 0 => by simp [rsT]
  | i + 1 => by
    rw [rsT, List.length_cons, List.length_append]
    have := rsT_len W k i
    have : (if i = k ∧ 0 < k then [46] else ([] : List UInt8)).length ≤ 1 := by split <;> simp
    omega

set_option maxHeartbeats 6400000 in
theorem txExact_any (u K j : Nat) (hu : 0 < u) (hK : K = 0 ∨ u % 2 = 1) (k40 : K ≤ 40) (j60 : j ≤ 60) (hU : u * 2 ^ j < 1000000000000000000) (w : World) :
    Calls Tryd.prog 132 #[.int .i64 ((u * 2 ^ j : Nat) : Int), .int .i64 (-((K : Int) + j))] w fun rv w' => rv = .returned (.string ⟨(exT (u * 5 ^ K) K).toArray⟩) ∧ Ext w w' := by
  obtain ⟨i, hi, hz, hsz, hby⟩ : ∃ i, Tryd.prog.info? 3 = some i ∧ i.zero = some (Value.int .i64 0) ∧ i.size = 1 ∧ i.bytes = 8 := by
    cases h : Tryd.prog.info? 3 with
    | none => exact absurd h (by have : (Tryd.prog.info? 3).isSome = true := by kernel_rfl
                                 intro h2; rw [h2] at this; cases this)
    | some i =>
      refine ⟨i, rfl, ?_, ?_, ?_⟩
      · have : (Tryd.prog.info? 3).map (·.zero) = some (some (Value.int .i64 0)) := by kernel_rfl
        rw [h] at this; exact Option.some.inj this
      · have : (Tryd.prog.info? 3).map (·.size) = some 1 := by kernel_rfl
        rw [h] at this; exact Option.some.inj this
      · have : (Tryd.prog.info? 3).map (·.bytes) = some 8 := by kernel_rfl
        rw [h] at this; exact Option.some.inj this
  have HI := Lib.hid hi; have HZ := Lib.hid hz; have HSZ := Lib.hid hsz; have HBY := Lib.hid hby; clear hi hz hsz hby
  obtain ⟨R, hR⟩ : ∃ R : ByteArray, R = ⟨(exT (u * 5 ^ K) K).toArray⟩ := ⟨_, rfl⟩
  rw [← hR]
  have HR := Lib.hid hR
  clear hR
  have u18 : u < 1000000000000000000 := by
    have : u * 1 ≤ u * 2 ^ j := Nat.mul_le_mul_left _ (Nat.pow_pos (by decide))
    omega
  have L5 : RowKit.Hid (∀ i, i ≤ K → (revD (u * 5 ^ i)).length ≤ 58) := Lib.hid (fun i hi => by
    apply revD_len
    have h1 : 5 ^ i ≤ 10 ^ 40 := Nat.le_trans (Nat.pow_le_pow_right (by decide) (by omega : i ≤ 40)) (by decide)
    have h2 : u * 5 ^ i ≤ u * 10 ^ 40 := Nat.mul_le_mul_left _ h1
    have h3 : u * 10 ^ 40 < 10 ^ 18 * 10 ^ 40 := Nat.mul_lt_mul_of_pos_right (by simpa using u18) (by decide)
    have h4 : (10 : Nat) ^ 18 * 10 ^ 40 = 10 ^ 58 := by decide
    omega)
  have TO := Lib.hid (fun w => txOf_row u u18 w)
  obtain ⟨U, hU0⟩ : ∃ U, U = u * 2 ^ j := ⟨_, rfl⟩
  obtain ⟨E, hE⟩ : ∃ E : Int, E = -((K : Int) + j) := ⟨_, rfl⟩
  rw [← hU0, ← hE]
  rw [← hU0] at hU
  have HU0 := Lib.hid hU0
  have HE := Lib.hid hE
  clear hU0 hE
  go_enter Tryd.func132, Tryd.ntmps132
  go_wp2_with fail
  go_loopw [0, 1] (fun s0 s1 wi => ∃ (i X : Nat) (x : Int), s0 = .int .i64 (X : Int) ∧ s1 = .int .i64 x ∧ i ≤ j ∧ X ≤ U ∧ RowKit.Hid (X = u * 2 ^ i) ∧ RowKit.Hid (x = -((K : Int) + i)) ∧ Ext w wi) (fun _ x _ => (-(intOf x)).toNat)
  case atStart => exact ⟨j, U, E, rfl, rfl, Nat.le_refl _, Nat.le_refl _, HU0, HE, Ext.auK⟩
  case round =>
    clear HU0 HE
    obtain ⟨i, X, x, rfl, rfl, ij, XU, HXX, HXE, hx0⟩ := hrel
    have hsz0 := hx0.size
    have hxe := HXE.out
    have hxx := HXX.out
    have b0 : -100 ≤ x := by omega
    have b1 : x ≤ 0 := by omega
    by_cases hi : 0 < i
    · obtain ⟨i', rfl⟩ : ∃ i', i = i' + 1 := ⟨i - 1, by omega⟩
      have q1 : x < 0 := by omega
      rw [Nat.pow_succ, ← Nat.mul_assoc] at hxx
      have q2 : ((X : Nat) : Int).tmod 2 = 0 := by rw [Int.tmod_eq_emod_of_nonneg (by omega)]; omega
      have td : ((X : Nat) : Int).tdiv 2 = ((X / 2 : Nat) : Int) := by rw [Int.tdiv_eq_ediv_of_nonneg (by omega)]; omega
      have kw : IntKind.i64.wrap ((X / 2 : Nat) : Int) = ((X / 2 : Nat) : Int) := IntWalk.i64_in _ (by omega)
      have kx : IntKind.i64.wrap (x + 1) = x + 1 := IntWalk.i64_in _ (by omega)
      have HXX2 : RowKit.Hid (X / 2 = u * 2 ^ i') := Lib.hid (by omega)
      have HXE2 : RowKit.Hid (x + 1 = -((K : Int) + i')) := Lib.hid (by omega)
      clear hxe hxx HXX HXE HR L5
      go_wp2_with fail
      go_roundw
      all_goals first | (simp [intOf]; done) | (simp [intOf]; omega) | exact ⟨i', X / 2, x + 1, rfl, rfl, by omega, by omega, HXX2, HXE2, Ext.auK⟩
    · obtain rfl : i = 0 := by omega
      rw [Nat.pow_zero, Nat.mul_one] at hxx
      have hxu : u = X := hxx.symm
      have kK : IntKind.i64.wrap (-x) = (K : Int) := by rw [IntWalk.i64_in _ (by omega)]; omega
      have hxk : x + K = 0 := by omega
      clear hxx HXX HXE hxe
      subst hxu
      by_cases hK0 : K = 0
      · have q1 : ¬ x < 0 := by omega
        clear hxk hK0 hK
        go_wp2_with (go_at_call 153; refine (TO.out _).mono ?_; rintro rv w1 ⟨v1, rfl, OWN0, hx1⟩; have OWN1 := Lib.hid OWN0; clear OWN0)
        go_loopw [7, 5] (fun s7 s5 wi => ∃ i : Nat, s7 = .int .i64 (i : Int) ∧ i ≤ K ∧ RowKit.Hid (wi.ownsRow w.heap.size 3 1 s5 (revD (u * 5 ^ i)).length (rwN (revD (u * 5 ^ i)))) ∧ Ext w wi) (fun x _ _ => K - (intOf x).toNat)
        case atStart => exact ⟨0, rfl, by omega, Lib.hid (by rw [Nat.pow_zero, Nat.mul_one]; exact own_base OWN1.out hsz0), Ext.auK⟩
        case round =>
          clear OWN1
          obtain ⟨i, rfl, iK, OWN, hx⟩ := hrel
          have hsz := hx.size
          by_cases hk : i < K
          · have q : (i : Int) < (K : Int) := by omega
            have p5 := L5.out i iK
            have b1 : 0 < u * 5 ^ i := Nat.mul_pos hu (Nat.pow_pos (by decide))
            obtain ⟨V, hV⟩ : ∃ V, V = u * 5 ^ i := ⟨_, rfl⟩
            have HV : RowKit.Hid (V * 5 = u * 5 ^ (i + 1)) := Lib.hid (by rw [hV, Nat.pow_succ, Nat.mul_assoc])
            rw [← hV] at OWN p5 b1
            clear hV
            have n0 : 0 < (revD V).length := by rw [revD_pos b1]; simp
            obtain ⟨g, cap, rfl, _, hgl⟩ := OWN.out.form n0
            have CK : RowKit.Hid (∀ m, m < (revD V).length → wr.cell? ⟨g, m, none⟩ = some (.int .i64 ((V / 10 ^ m % 10 : Nat) : Int))) := Lib.hid (fun m hm => (OWN.out.cellAt m (by omega)).trans (rwN_get _ _ _ (revD_get V m hm)))
            have w5 : IntKind.i64.wrap ((i : Int) + 1) = (i : Int) + 1 := IntWalk.i64_in _ (by omega)
            obtain ⟨n, hn⟩ : ∃ n, n = (revD V).length := ⟨_, rfl⟩
            have TM := Lib.hid (txTimes_row V n cap g hn (by omega) wr (fun m hm => CK.out m (by omega)) hgl)
            rw [← hn]
            clear CK OWN hn n0 p5
            go_wp2_with (go_at_call 154; refine TM.out.mono ?_; rintro rv w2 ⟨v2, rfl, OWN0, hx2⟩; have OWN2 := Lib.hid OWN0; clear OWN0)
            clear TM
            go_roundw
            all_goals first | (simp [intOf]; done) | (simp [intOf]; omega) | exact ⟨i + 1, by first | rfl | simp, by omega, Lib.hid (by rw [← HV.out]; exact own_base OWN2.out hsz), Ext.auK⟩
          · have q : ¬ (i : Int) < (K : Int) := by omega
            obtain rfl : K = i := by omega
            have p5 := L5.out K iK
            have b1 : 0 < u * 5 ^ K := Nat.mul_pos hu (Nat.pow_pos (by decide))
            have HR2 := HR.out
            rw [← rsT_all] at HR2
            generalize u * 5 ^ K = W at *
            have HR3 := Lib.hid HR2
            clear HR HR2 L5
            have n0 : 0 < (revD W).length := by rw [revD_pos b1]; simp
            go_wp2_with fail
            go_loopw [5] (fun s5 wi => ∃ (n z : Nat), RowKit.Hid (n = (revD W).length + z) ∧ 0 < n ∧ n ≤ max (revD W).length (K + 1) ∧ RowKit.Hid (wi.ownsRow w.heap.size 3 1 s5 n (rwN (revD W ++ List.replicate z 0))) ∧ Ext w wi) (fun x _ => K + 1 - sLen x)
            case atStart => exact ⟨(revD W).length, 0, Lib.hid rfl, n0, by omega, by rw [List.replicate_zero, List.append_nil]; exact OWN, Ext.auK⟩
            case round =>
              clear OWN
              obtain ⟨n, z, HN, np, nm, OWN, hx3⟩ := hrel
              have hsz3 := hx3.size
              obtain ⟨g, cap, rfl, _, hgl⟩ := OWN.out.form np
              by_cases hk2 : n ≤ K
              · have q2 : (n : Int) ≤ (K : Int) := by omega
                clear HR3
                go_wp2_with (at_builtin; (refine wpList_append_own _ rfl (.tmp 36) (.tmp 37) 29 rfl (w.heap.size) 3 i _ 1 8 Tryd.underlying29 HI.out HZ.out HSZ.out HBY.out rfl (by decide) _ (n) (rwN (revD W ++ List.replicate z 0)) rfl (own_extP OWN.out (Ext.new _ _)) _ 1 1 [.int .i64 0] rfl rfl (fun j u hj => by cases j with | zero => (simp at hj; subst hj; simp [go_sem, Addr.add]) | succ j => simp at hj) (by simp [Value.oneCell']) (by simp [maxLen]; omega) (by omega) (by simp; omega) ?_); intro v9 w9 OWN8 hgr _; have hx9 : Ext w w9 := ext_grownP Ext.auK hgr (fun k hk => by have := (World.ownsRow.lt OWN.out k hk).1; omega); have OWN7 : RowKit.Hid (w9.ownsRow (w.heap.size) 3 1 v9 (n + 1) (rwN (revD W ++ List.replicate z 0) ++ [.int .i64 0])) := OWN8; clear OWN OWN8 hgr; have OWN := OWN7; clear OWN7)
                obtain ⟨g9, cap9, rfl, _, _⟩ := OWN.out.form (by omega)
                go_roundw
                all_goals first | (simp [sLen]; done) | (simp [sLen]; omega) | exact ⟨n + 1, z + 1, Lib.hid (by rw [HN.out, Nat.add_assoc]), by omega, by omega, Lib.hid (by rw [List.replicate_succ', ← List.append_assoc]; exact (rwN_snoc _ _).symm ▸ OWN.out), hx9⟩
              · have q2 : ¬ (n : Int) ≤ (K : Int) := by omega
                have hn := HN.out
                have hnm : max (revD W).length (K + 1) = n := by omega
                rw [hnm] at HR3
                have CK : RowKit.Hid (∀ m, m < n → wr.cell? ⟨g, m, none⟩ = some (.int .i64 ((W / 10 ^ m % 10 : Nat) : Int))) := Lib.hid (fun m hm => (OWN.out.cellAt m (by omega)).trans (rwN_get _ _ _ (pad_get W z m (by omega))))
                have kn : IntKind.i64.wrap ((n : Int) - 1) = (n : Int) - 1 := IntWalk.i64_in _ (by omega)
                clear hn hnm OWN HN
                go_wp2_with fail
                go_loopw [8, 9] (fun s8 s9 wi => ∃ (i : Nat) (x : Int) (b : ByteArray), s8 = .string b ∧ s9 = .int .i64 x ∧ x + 1 ≤ i ∧ i ≤ x + 1 ∧ i ≤ n ∧ RowKit.Hid (b ++ ⟨(rsT W K i).toArray⟩ = R) ∧ b.size + 2 * i ≤ 2 * n ∧ Ext wr wi) (fun _ x _ => (intOf x + 1).toNat)
                case atStart => exact ⟨n, (n : Int) - 1, ⟨#[]⟩, rfl, rfl, by omega, by omega, Nat.le_refl _, Lib.hid (by rw [HR3.out]; apply ByteArray.ext; simp [ByteArray.data_append]), by show 0 + 2 * n ≤ 2 * n; omega, Ext.auK⟩
                case round =>
                  clear HR3
                  obtain ⟨i, x, b, rfl, rfl, x1, x2, i_n, HB, bs, hx4⟩ := hrel
                  by_cases hi : 0 < i
                  · obtain ⟨m, rfl⟩ : ∃ m, i = m + 1 := ⟨i - 1, by omega⟩
                    obtain rfl : x = (m : Int) := by omega
                    have q3 : (0 : Int) ≤ (m : Int) := by omega
                    have q4 : (m : Int) < (n : Int) := by omega
                    have h2 : ((m : Int)).toNat = m := by omega
                    have ck := (hx4.cells _ _ hgl).trans (CK.out m (by omega))
                    have d9 : W / 10 ^ m % 10 < 10 := Nat.mod_lt _ (by decide)
                    have hb2 := HB.out
                    rw [rsT, ba_step] at hb2
                    have LN := fun w => l1Num_any (W / 10 ^ m % 10) (by omega) w
                    rw [decT_small d9] at LN
                    obtain ⟨y, hy⟩ : ∃ y : ByteArray, y = ⟨[UInt8.ofNat (48 + W / 10 ^ m % 10)].toArray⟩ := ⟨_, rfl⟩
                    rw [← hy] at hb2 LN
                    have ys : y.size = 1 := by rw [hy]; rfl
                    have c1 : ¬ 9223372036854775807 < b.size + y.size := by omega
                    have c2 : ¬ 9223372036854775807 < b.size + y.size + 1 := by omega
                    have w5 : IntKind.i64.wrap ((m : Int) - 1) = (m : Int) - 1 := IntWalk.i64_in _ (by omega)
                    have HY := Lib.hid ys
                    clear hy ys x1 x2 CK HB
                    generalize W / 10 ^ m % 10 = d at *
                    have LC := Lib.hid LN
                    clear LN
                    by_cases hmk : m = K ∧ 0 < K
                    · rw [if_pos hmk] at hb2
                      have HB2 := Lib.hid hb2
                      obtain ⟨hm1, hm2⟩ := hmk
                      obtain rfl : K = m := hm1.symm
                      have q5 : (0 : Int) < (K : Int) := by omega
                      clear hb2 hm1
                      go_wp2_with (go_at_call 146; refine (LC.out _).mono ?_; rintro rv w5 ⟨rfl, hx5⟩)
                      go_roundw
                      all_goals first | (simp [intOf]; done) | (simp [intOf]; omega) | exact ⟨K, (K : Int) - 1, _, rfl, rfl, by omega, by omega, by omega, HB2, by have := HY.out; rw [ByteArray.size_append, ByteArray.size_append]; show b.size + y.size + 1 + _ ≤ _; omega, Ext.auK⟩
                    · rw [if_neg hmk] at hb2
                      rw [ba_nil] at hb2
                      have HB2 := Lib.hid hb2
                      clear hb2
                      by_cases hm1 : m = K
                      · have q5 : ¬ (0 : Int) < (K : Int) := by omega
                        obtain rfl : K = m := hm1.symm
                        clear hm1 hmk
                        go_wp2_with (go_at_call 146; refine (LC.out _).mono ?_; rintro rv w5 ⟨rfl, hx5⟩)
                        go_roundw
                        all_goals first | (simp [intOf]; done) | (simp [intOf]; omega) | exact ⟨K, (K : Int) - 1, _, rfl, rfl, by omega, by omega, by omega, HB2, by have := HY.out; simp [ByteArray.size_append]; omega, Ext.auK⟩
                      · have q5 : ((m : Int) == (K : Int)) = false := by simp; omega
                        have q6 : ¬ (m : Int) = (K : Int) := by omega
                        clear hmk
                        go_wp2_with (go_at_call 146; refine (LC.out _).mono ?_; rintro rv w5 ⟨rfl, hx5⟩)
                        go_roundw
                        all_goals first | (simp [intOf]; done) | (simp [intOf]; omega) | exact ⟨m, (m : Int) - 1, _, rfl, rfl, by omega, by omega, by omega, HB2, by have := HY.out; simp [ByteArray.size_append]; omega, Ext.auK⟩
                  · have q3 : ¬ (0 : Int) ≤ x := by omega
                    obtain rfl : i = 0 := by omega
                    have hb2 := HB.out
                    rw [rsT, ba_nil] at hb2
                    have HB2 := Lib.hid hb2
                    clear hb2 HB CK x1 x2
                    go_wp2_with fail
                    go_ret
                    exact ⟨by have h := HB2.out; subst h; rfl, Ext.auK⟩
      · have q1 : x < 0 := by omega
        have h1 : u % 2 = 1 := by omega
        have q2 : ((u : Nat) : Int).tmod 2 = 1 := by rw [Int.tmod_eq_emod_of_nonneg (by omega)]; omega
        clear b0 b1 h1 hxk hK0 hK
        go_wp2_with (go_at_call 153; refine (TO.out _).mono ?_; rintro rv w1 ⟨v1, rfl, OWN0, hx1⟩; have OWN1 := Lib.hid OWN0; clear OWN0)
        go_loopw [7, 5] (fun s7 s5 wi => ∃ i : Nat, s7 = .int .i64 (i : Int) ∧ i ≤ K ∧ RowKit.Hid (wi.ownsRow w.heap.size 3 1 s5 (revD (u * 5 ^ i)).length (rwN (revD (u * 5 ^ i)))) ∧ Ext w wi) (fun x _ _ => K - (intOf x).toNat)
        case atStart => exact ⟨0, rfl, by omega, Lib.hid (by rw [Nat.pow_zero, Nat.mul_one]; exact own_base OWN1.out hsz0), Ext.auK⟩
        case round =>
          clear OWN1
          obtain ⟨i, rfl, iK, OWN, hx⟩ := hrel
          have hsz := hx.size
          by_cases hk : i < K
          · have q : (i : Int) < (K : Int) := by omega
            have p5 := L5.out i iK
            have b1 : 0 < u * 5 ^ i := Nat.mul_pos hu (Nat.pow_pos (by decide))
            obtain ⟨V, hV⟩ : ∃ V, V = u * 5 ^ i := ⟨_, rfl⟩
            have HV : RowKit.Hid (V * 5 = u * 5 ^ (i + 1)) := Lib.hid (by rw [hV, Nat.pow_succ, Nat.mul_assoc])
            rw [← hV] at OWN p5 b1
            clear hV
            have n0 : 0 < (revD V).length := by rw [revD_pos b1]; simp
            obtain ⟨g, cap, rfl, _, hgl⟩ := OWN.out.form n0
            have CK : RowKit.Hid (∀ m, m < (revD V).length → wr.cell? ⟨g, m, none⟩ = some (.int .i64 ((V / 10 ^ m % 10 : Nat) : Int))) := Lib.hid (fun m hm => (OWN.out.cellAt m (by omega)).trans (rwN_get _ _ _ (revD_get V m hm)))
            have w5 : IntKind.i64.wrap ((i : Int) + 1) = (i : Int) + 1 := IntWalk.i64_in _ (by omega)
            obtain ⟨n, hn⟩ : ∃ n, n = (revD V).length := ⟨_, rfl⟩
            have TM := Lib.hid (txTimes_row V n cap g hn (by omega) wr (fun m hm => CK.out m (by omega)) hgl)
            rw [← hn]
            clear CK OWN hn n0 p5
            go_wp2_with (go_at_call 154; refine TM.out.mono ?_; rintro rv w2 ⟨v2, rfl, OWN0, hx2⟩; have OWN2 := Lib.hid OWN0; clear OWN0)
            clear TM
            go_roundw
            all_goals first | (simp [intOf]; done) | (simp [intOf]; omega) | exact ⟨i + 1, by first | rfl | simp, by omega, Lib.hid (by rw [← HV.out]; exact own_base OWN2.out hsz), Ext.auK⟩
          · have q : ¬ (i : Int) < (K : Int) := by omega
            obtain rfl : K = i := by omega
            have p5 := L5.out K iK
            have b1 : 0 < u * 5 ^ K := Nat.mul_pos hu (Nat.pow_pos (by decide))
            have HR2 := HR.out
            rw [← rsT_all] at HR2
            generalize u * 5 ^ K = W at *
            have HR3 := Lib.hid HR2
            clear HR HR2 L5
            have n0 : 0 < (revD W).length := by rw [revD_pos b1]; simp
            go_wp2_with fail
            go_loopw [5] (fun s5 wi => ∃ (n z : Nat), RowKit.Hid (n = (revD W).length + z) ∧ 0 < n ∧ n ≤ max (revD W).length (K + 1) ∧ RowKit.Hid (wi.ownsRow w.heap.size 3 1 s5 n (rwN (revD W ++ List.replicate z 0))) ∧ Ext w wi) (fun x _ => K + 1 - sLen x)
            case atStart => exact ⟨(revD W).length, 0, Lib.hid rfl, n0, by omega, by rw [List.replicate_zero, List.append_nil]; exact OWN, Ext.auK⟩
            case round =>
              clear OWN
              obtain ⟨n, z, HN, np, nm, OWN, hx3⟩ := hrel
              have hsz3 := hx3.size
              obtain ⟨g, cap, rfl, _, hgl⟩ := OWN.out.form np
              by_cases hk2 : n ≤ K
              · have q2 : (n : Int) ≤ (K : Int) := by omega
                clear HR3
                go_wp2_with (at_builtin; (refine wpList_append_own _ rfl (.tmp 36) (.tmp 37) 29 rfl (w.heap.size) 3 i _ 1 8 Tryd.underlying29 HI.out HZ.out HSZ.out HBY.out rfl (by decide) _ (n) (rwN (revD W ++ List.replicate z 0)) rfl (own_extP OWN.out (Ext.new _ _)) _ 1 1 [.int .i64 0] rfl rfl (fun j u hj => by cases j with | zero => (simp at hj; subst hj; simp [go_sem, Addr.add]) | succ j => simp at hj) (by simp [Value.oneCell']) (by simp [maxLen]; omega) (by omega) (by simp; omega) ?_); intro v9 w9 OWN8 hgr _; have hx9 : Ext w w9 := ext_grownP Ext.auK hgr (fun k hk => by have := (World.ownsRow.lt OWN.out k hk).1; omega); have OWN7 : RowKit.Hid (w9.ownsRow (w.heap.size) 3 1 v9 (n + 1) (rwN (revD W ++ List.replicate z 0) ++ [.int .i64 0])) := OWN8; clear OWN OWN8 hgr; have OWN := OWN7; clear OWN7)
                obtain ⟨g9, cap9, rfl, _, _⟩ := OWN.out.form (by omega)
                go_roundw
                all_goals first | (simp [sLen]; done) | (simp [sLen]; omega) | exact ⟨n + 1, z + 1, Lib.hid (by rw [HN.out, Nat.add_assoc]), by omega, by omega, Lib.hid (by rw [List.replicate_succ', ← List.append_assoc]; exact (rwN_snoc _ _).symm ▸ OWN.out), hx9⟩
              · have q2 : ¬ (n : Int) ≤ (K : Int) := by omega
                have hn := HN.out
                have hnm : max (revD W).length (K + 1) = n := by omega
                rw [hnm] at HR3
                have CK : RowKit.Hid (∀ m, m < n → wr.cell? ⟨g, m, none⟩ = some (.int .i64 ((W / 10 ^ m % 10 : Nat) : Int))) := Lib.hid (fun m hm => (OWN.out.cellAt m (by omega)).trans (rwN_get _ _ _ (pad_get W z m (by omega))))
                have kn : IntKind.i64.wrap ((n : Int) - 1) = (n : Int) - 1 := IntWalk.i64_in _ (by omega)
                clear hn hnm OWN HN
                go_wp2_with fail
                go_loopw [8, 9] (fun s8 s9 wi => ∃ (i : Nat) (x : Int) (b : ByteArray), s8 = .string b ∧ s9 = .int .i64 x ∧ x + 1 ≤ i ∧ i ≤ x + 1 ∧ i ≤ n ∧ RowKit.Hid (b ++ ⟨(rsT W K i).toArray⟩ = R) ∧ b.size + 2 * i ≤ 2 * n ∧ Ext wr wi) (fun _ x _ => (intOf x + 1).toNat)
                case atStart => exact ⟨n, (n : Int) - 1, ⟨#[]⟩, rfl, rfl, by omega, by omega, Nat.le_refl _, Lib.hid (by rw [HR3.out]; apply ByteArray.ext; simp [ByteArray.data_append]), by show 0 + 2 * n ≤ 2 * n; omega, Ext.auK⟩
                case round =>
                  clear HR3
                  obtain ⟨i, x, b, rfl, rfl, x1, x2, i_n, HB, bs, hx4⟩ := hrel
                  by_cases hi : 0 < i
                  · obtain ⟨m, rfl⟩ : ∃ m, i = m + 1 := ⟨i - 1, by omega⟩
                    obtain rfl : x = (m : Int) := by omega
                    have q3 : (0 : Int) ≤ (m : Int) := by omega
                    have q4 : (m : Int) < (n : Int) := by omega
                    have h2 : ((m : Int)).toNat = m := by omega
                    have ck := (hx4.cells _ _ hgl).trans (CK.out m (by omega))
                    have d9 : W / 10 ^ m % 10 < 10 := Nat.mod_lt _ (by decide)
                    have hb2 := HB.out
                    rw [rsT, ba_step] at hb2
                    have LN := fun w => l1Num_any (W / 10 ^ m % 10) (by omega) w
                    rw [decT_small d9] at LN
                    obtain ⟨y, hy⟩ : ∃ y : ByteArray, y = ⟨[UInt8.ofNat (48 + W / 10 ^ m % 10)].toArray⟩ := ⟨_, rfl⟩
                    rw [← hy] at hb2 LN
                    have ys : y.size = 1 := by rw [hy]; rfl
                    have c1 : ¬ 9223372036854775807 < b.size + y.size := by omega
                    have c2 : ¬ 9223372036854775807 < b.size + y.size + 1 := by omega
                    have w5 : IntKind.i64.wrap ((m : Int) - 1) = (m : Int) - 1 := IntWalk.i64_in _ (by omega)
                    have HY := Lib.hid ys
                    clear hy ys x1 x2 CK HB
                    generalize W / 10 ^ m % 10 = d at *
                    have LC := Lib.hid LN
                    clear LN
                    by_cases hmk : m = K ∧ 0 < K
                    · rw [if_pos hmk] at hb2
                      have HB2 := Lib.hid hb2
                      obtain ⟨hm1, hm2⟩ := hmk
                      obtain rfl : K = m := hm1.symm
                      have q5 : (0 : Int) < (K : Int) := by omega
                      clear hb2 hm1
                      go_wp2_with (go_at_call 146; refine (LC.out _).mono ?_; rintro rv w5 ⟨rfl, hx5⟩)
                      go_roundw
                      all_goals first | (simp [intOf]; done) | (simp [intOf]; omega) | exact ⟨K, (K : Int) - 1, _, rfl, rfl, by omega, by omega, by omega, HB2, by have := HY.out; rw [ByteArray.size_append, ByteArray.size_append]; show b.size + y.size + 1 + _ ≤ _; omega, Ext.auK⟩
                    · rw [if_neg hmk] at hb2
                      rw [ba_nil] at hb2
                      have HB2 := Lib.hid hb2
                      clear hb2
                      by_cases hm1 : m = K
                      · have q5 : ¬ (0 : Int) < (K : Int) := by omega
                        obtain rfl : K = m := hm1.symm
                        clear hm1 hmk
                        go_wp2_with (go_at_call 146; refine (LC.out _).mono ?_; rintro rv w5 ⟨rfl, hx5⟩)
                        go_roundw
                        all_goals first | (simp [intOf]; done) | (simp [intOf]; omega) | exact ⟨K, (K : Int) - 1, _, rfl, rfl, by omega, by omega, by omega, HB2, by have := HY.out; simp [ByteArray.size_append]; omega, Ext.auK⟩
                      · have q5 : ((m : Int) == (K : Int)) = false := by simp; omega
                        have q6 : ¬ (m : Int) = (K : Int) := by omega
                        clear hmk
                        go_wp2_with (go_at_call 146; refine (LC.out _).mono ?_; rintro rv w5 ⟨rfl, hx5⟩)
                        go_roundw
                        all_goals first | (simp [intOf]; done) | (simp [intOf]; omega) | exact ⟨m, (m : Int) - 1, _, rfl, rfl, by omega, by omega, by omega, HB2, by have := HY.out; simp [ByteArray.size_append]; omega, Ext.auK⟩
                  · have q3 : ¬ (0 : Int) ≤ x := by omega
                    obtain rfl : i = 0 := by omega
                    have hb2 := HB.out
                    rw [rsT, ba_nil] at hb2
                    have HB2 := Lib.hid hb2
                    clear hb2 HB CK x1 x2
                    go_wp2_with fail
                    go_ret
                    exact ⟨by have h := HB2.out; subst h; rfl, Ext.auK⟩
end Go.Proofs.YtfgbndjhaiigbabDoor

