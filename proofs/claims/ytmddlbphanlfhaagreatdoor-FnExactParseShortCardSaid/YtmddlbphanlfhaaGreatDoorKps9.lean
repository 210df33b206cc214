/-
  Contracts of the functions that the laws reach, and the plain facts that they rest on, each under the conditions that its line names; part 9.
-/
import Derived.Test.YtmddlbphanlfhaaGreatDoorKps1
import Derived.Test.YtmddlbphanlfhaaGreatDoorKps2
import Derived.Test.YtmddlbphanlfhaaGreatDoorKps3
import Derived.Test.YtmddlbphanlfhaaGreatDoorKps4
import Derived.Test.YtmddlbphanlfhaaGreatDoorKps5
import Derived.Test.YtmddlbphanlfhaaGreatDoorKps6
import Derived.Test.YtmddlbphanlfhaaGreatDoorKps7
import Derived.Test.YtmddlbphanlfhaaGreatDoorKps8
import Derived.Test.YtmddlbphanlfhaaGreatDoorRows
import Derived.WalkKit
import Derived.LoopTactic
import Derived.LoopN
import Derived.Laws.OwnMore
import Derived.OwnWalk
import Derived.Deep.AppendLies
import Derived.Deep.LoopGhost
import Derived.Laws.Bits64b
import Derived.WalkSpells
import Derived.WalkLawsBesides
import Derived.StillTactics
import Derived.Laws.Pointers
import Derived.Deep.RegionHeld3
import Derived.Deep.QuietTactic
import Derived.BigQuiet
import Derived.Outline
import Derived.Lib.Hide
import Derived.RowKit3
import Derived.Carry
import Derived.IntWalk
import Derived.Lib.ItoaNum
import Derived.Laws.BytesString
namespace Go.Proofs.YtmddlbphanlfhaaGreatDoor
open Go Go.RowKit
set_option linter.unusedSimpArgs false
set_option linter.unusedVariables false
set_option maxRecDepth 100000

theorem own_extP {w w' : World} {base : Nat} {e : TypeId} {size : Nat} {v : Value} {n : Nat} {xs : List Value} (h : w.ownsRow base e size v n xs) (hb : Ext w w') : w'.ownsRow base e size v n xs :=
  h.kept (row := none) ⟨hb.os, hb.tape, hb.output, hb.size, fun k hk _ => hb.block k hk⟩ (by by_cases h : v.ownBlock = none; exact Or.inl h; exact Or.inr h)

theorem ext_grownP {w W w' : World} {row : Option Nat} (hx : Ext w W) (hg : W.grownBy w' row) (hr : ∀ k, row = some k → w.heap.size ≤ k) : Ext w w' :=
  ⟨hg.os.trans hx.os, hg.tape.trans hx.tape, hg.output.trans hx.output, Nat.le_trans hx.size hg.size, fun k hk => (hg.block k (Nat.lt_of_lt_of_le hk hx.size) (fun h => by have := hr k h.symm; omega)).trans (hx.block k hk)⟩
end Go.Proofs.YtmddlbphanlfhaaGreatDoor

namespace Go.Proofs.YtmddlbphanlfhaaGreatDoor
open Go Go.RowKit
set_option linter.unusedSimpArgs false
set_option linter.unusedVariables false
set_option maxRecDepth 100000

/-- A list of texts as a row. -/
def rwT (P : List ByteArray) : List Value := P.map (fun x : ByteArray => Value.string x)

theorem rwT_snoc (P : List ByteArray) (d : ByteArray) : rwT (P ++ [d]) = rwT P ++ [.string d] := by unfold rwT; simp

/-- The parts before so many bytes, and where the next one begins. -/
def spS (s : ByteArray) : Nat → List ByteArray × Nat
  | 0 => ([], 0)
  | k + 1 => if h : k < s.size then (if (s[k]'h).toNat = 101 then ((spS s k).1 ++ [s.extract (spS s k).2 k], k + 1) else spS s k) else spS s k

theorem spS_bd (s : ByteArray) : ∀ k, (spS s k).2 ≤ k ∧ (spS s k).1.length ≤ k
  | 0 => ⟨Nat.le_refl _, Nat.le_refl _⟩
  | k + 1 => by
    have ih := spS_bd s k
    unfold spS
    by_cases h : k < s.size
    · rw [dif_pos h]
      split
      · exact ⟨Nat.le_refl _, by simp; omega⟩
      · omega
    · rw [dif_neg h]; omega

/-- All parts. -/
def spV (s : ByteArray) : List ByteArray := (spS s s.size).1 ++ [s.extract (spS s s.size).2 s.size]

set_option maxHeartbeats 1600000 in
theorem l1Split_row (s : ByteArray) (hs : s.size ≤ 1000) (w : World) : Calls Tryz.prog 18 #[.string s, .int .u8 101] w fun rv w' => ∃ v, rv = .returned v ∧ w'.ownsRow w.heap.size 9 1 v (spV s).length (rwT (spV s)) ∧ Ext w w' := by
  obtain ⟨i, hi, hz, hsz, hby⟩ : ∃ i, Tryz.prog.info? 9 = some i ∧ i.zero = some (Value.string ⟨#[]⟩) ∧ i.size = 1 ∧ i.bytes = 16 := by
    cases h : Tryz.prog.info? 9 with
    | none => exact absurd h (by have : (Tryz.prog.info? 9).isSome = true := by kernel_rfl
                                 intro h2; rw [h2] at this; cases this)
    | some i =>
      refine ⟨i, rfl, ?_, ?_, ?_⟩
      · have : (Tryz.prog.info? 9).map (·.zero) = some (some (Value.string ⟨#[]⟩)) := by kernel_rfl
        rw [h] at this; exact Option.some.inj this
      · have : (Tryz.prog.info? 9).map (·.size) = some 1 := by kernel_rfl
        rw [h] at this; exact Option.some.inj this
      · have : (Tryz.prog.info? 9).map (·.bytes) = some 16 := by kernel_rfl
        rw [h] at this; exact Option.some.inj this
  have HI := Lib.hid hi; have HZ := Lib.hid hz; have HSZ := Lib.hid hsz; have HBY := Lib.hid hby; clear hi hz hsz hby
  go_enter Tryz.func18, Tryz.ntmps18
  go_wp2_with fail
  go_loopw [5, 6, 7] (fun s5 s6 s7 wi => ∃ (k q g : Nat) (P : List ByteArray), s7 = .int .i64 (k : Int) ∧ s6 = .int .i64 (g : Int) ∧ k ≤ s.size ∧ RowKit.Hid (spS s k = (P, g)) ∧ RowKit.Hid (P.length = q) ∧ RowKit.Hid (wi.ownsRow w.heap.size 9 1 s5 q (rwT P)) ∧ Ext w wi) (fun _ _ x _ => s.size - (intOf x).toNat)
  case atStart => exact ⟨0, 0, 0, [], rfl, rfl, by omega, Lib.hid rfl, Lib.hid rfl, Lib.hid (World.ownsRow_nil _ _ _ _), Ext.auK⟩
  case round =>
    obtain ⟨k, q, g, P, rfl, rfl, ks, HS, HQ, OWN, hx⟩ := hrel
    have hsz := hx.size
    have bd := spS_bd s k
    rw [HS.out] at bd
    have g1 : g ≤ k := bd.1
    have qk : q ≤ k := by have := bd.2; rw [HQ.out] at this; exact this
    clear bd
    by_cases hk : k < s.size
    · have p1 : (k : Int) < (s.size : Int) := by omega
      have p2 : (0 : Int) ≤ (k : Int) := by omega
      have w5 : IntKind.i64.wrap ((k : Int) + 1) = (k : Int) + 1 := IntWalk.i64_in _ (by omega)
      have p3 : (g : Int) ≤ (k : Int) := by omega
      have p4 : (0 : Int) ≤ (g : Int) := by omega
      have p5 : (k : Int) ≤ (s.size : Int) := by omega
      by_cases hc : (s[k]'hk).toNat = 101
      · have HS2 : RowKit.Hid (spS s (k + 1) = (P ++ [s.extract g k], k + 1)) := Lib.hid (by rw [spS, dif_pos hk, if_pos hc, HS.out])
        have hcb : (((s[k]'hk).toNat : Int) == 101) = true := by simp; omega
        clear hc HS
        go_wp2_with (at_builtin; go_loud ((refine wpList_append_own _ rfl (.tmp 19) (.tmp 24) 43 rfl (w.heap.size) 9 i _ 1 16 Tryz.underlying43 HI.out HZ.out HSZ.out HBY.out rfl (by decide) _ (q) (rwT P) rfl (own_extP OWN.out (Ext.new _ _)) _ 1 1 [.string (s.extract g k)] rfl rfl (fun j u hj => by cases j with | zero => (simp at hj; subst hj; simp [go_sem, Addr.add]) | succ j => simp at hj) (by simp [Value.oneCell']) (by first | (simp [maxLen]; done) | (simp [maxLen]; omega)) (by omega) (by first | (simp; done) | (simp; omega)) ?_); intro v9 w9 OWN8 hgr _; have hx9 : Ext w w9 := ext_grownP Ext.auK hgr (fun k hk => by have := (World.ownsRow.lt OWN.out k hk).1; omega); have OWN7 : RowKit.Hid (w9.ownsRow (w.heap.size) 9 1 v9 (q + 1) (rwT P ++ [.string (s.extract g k)])) := OWN8; clear OWN OWN8 hgr; have OWN := OWN7; clear OWN7))
        go_roundw
        all_goals first | (simp [intOf]; done) | (simp [intOf]; omega) | exact ⟨k + 1, q + 1, k + 1, P ++ [s.extract g k], by first | rfl | simp, by first | rfl | simp, by omega, HS2, Lib.hid (by rw [List.length_append, HQ.out]; rfl), by rw [rwT_snoc]; exact OWN, hx9⟩
      · have HS2 : RowKit.Hid (spS s (k + 1) = (P, g)) := Lib.hid (by rw [spS, dif_pos hk, if_neg hc, HS.out])
        have hcb : (((s[k]'hk).toNat : Int) == 101) = false := by simp; omega
        clear hc HS
        go_wp2_with fail
        go_roundw
        all_goals first | (simp [intOf]; done) | (simp [intOf]; omega) | exact ⟨k + 1, q, g, P, by first | rfl | simp, rfl, by omega, HS2, HQ, OWN, hx⟩
    · have p1 : ¬ (k : Int) < (s.size : Int) := by omega
      obtain rfl : k = s.size := by omega
      have p3 : (g : Int) ≤ (s.size : Int) := by omega
      have p4 : (0 : Int) ≤ (g : Int) := by omega
      have HV : RowKit.Hid (spV s = P ++ [s.extract g s.size]) := Lib.hid (by unfold spV; rw [HS.out])
      have HVL : RowKit.Hid ((spV s).length = q + 1) := Lib.hid (by rw [HV.out, List.length_append, HQ.out]; rfl)
      clear HS
      go_wp2_with (at_builtin; go_loud ((refine wpList_append_own _ rfl (.tmp 28) (.tmp 32) 43 rfl (w.heap.size) 9 i _ 1 16 Tryz.underlying43 HI.out HZ.out HSZ.out HBY.out rfl (by decide) _ (q) (rwT P) rfl (own_extP OWN.out (Ext.new _ _)) _ 1 1 [.string (s.extract g s.size)] rfl rfl (fun j u hj => by cases j with | zero => (simp at hj; subst hj; simp [go_sem, Addr.add]) | succ j => simp at hj) (by simp [Value.oneCell']) (by first | (simp [maxLen]; done) | (simp [maxLen]; omega)) (by omega) (by first | (simp; done) | (simp; omega)) ?_); intro v9 w9 OWN8 hgr _; have hx9 : Ext w w9 := ext_grownP Ext.auK hgr (fun k hk => by have := (World.ownsRow.lt OWN.out k hk).1; omega); have OWN7 : RowKit.Hid (w9.ownsRow (w.heap.size) 9 1 v9 (q + 1) (rwT P ++ [.string (s.extract g s.size)])) := OWN8; clear OWN OWN8 hgr; have OWN := OWN7; clear OWN7))
      go_ret
      exact ⟨_, rfl, by rw [HVL.out, HV.out, rwT_snoc]; exact OWN.out, Ext.auK⟩
end Go.Proofs.YtmddlbphanlfhaaGreatDoor

namespace Go.Proofs.YtmddlbphanlfhaaGreatDoor
open Go Go.RowKit
set_option linter.unusedSimpArgs false
set_option linter.unusedVariables false

theorem extract_list (s : ByteArray) (g k : Nat) : (s.extract g k).data.toList = (s.data.toList.take k).drop g := by
  simp [ByteArray.data_extract, Array.toList_extract, List.extract_eq_take_drop, List.drop_take]

theorem spS_inv (s : ByteArray) : ∀ k, k ≤ s.size → s.data.toList.take k = ((spS s k).1.map (fun x => x.data.toList ++ [101])).flatten ++ (s.data.toList.take k).drop (spS s k).2 ∧ (∀ x, x ∈ (spS s k).1 → (101 : UInt8) ∉ x.data.toList) ∧ (101 : UInt8) ∉ (s.data.toList.take k).drop (spS s k).2
  | 0, _ => by simp [spS]
  | k + 1, h => by
    have hk : k < s.size := by omega
    obtain ⟨i1, i2, i3⟩ := spS_inv s k (by omega)
    have bd := (spS_bd s k).1
    have tb := take_byte s k hk
    have tl : (s.data.toList.take k).length = k := by rw [List.length_take]; simp; omega
    rw [spS, dif_pos hk]
    by_cases hc : (s[k]'hk).toNat = 101
    · rw [if_pos hc]
      have hb : s[k]'hk = 101 := UInt8.toNat_inj.1 (by rw [hc]; rfl)
      have dn : (s.data.toList.take (k + 1)).drop (k + 1) = [] := by rw [List.drop_eq_nil_iff, List.length_take]; omega
      refine ⟨?_, fun x hx => ?_, ?_⟩
      · simp only []
        rw [dn, List.append_nil, List.map_append, List.flatten_append, tb, hb]
        simp only [List.map_cons, List.map_nil, List.flatten_cons, List.flatten_nil, List.append_nil]
        rw [extract_list, ← List.append_assoc, ← i1]
      · rcases List.mem_append.1 hx with q | q
        · exact i2 x q
        · rw [List.mem_singleton.1 q, extract_list]; exact i3
      · simp only []
        rw [dn]; simp
    · rw [if_neg hc]
      refine ⟨?_, i2, ?_⟩
      · rw [tb, List.drop_append_of_le_length (by omega), ← List.append_assoc, ← i1]
      · rw [tb, List.drop_append_of_le_length (by omega)]
        intro q
        rcases List.mem_append.1 q with q | q
        · exact i3 q
        · exact hc (by rw [← List.mem_singleton.1 q]; rfl)

theorem spV_inv (s : ByteArray) : s.data.toList ++ [101] = ((spV s).map (fun x => x.data.toList ++ [101])).flatten ∧ ∀ x, x ∈ spV s → (101 : UInt8) ∉ x.data.toList := by
  obtain ⟨i1, i2, i3⟩ := spS_inv s s.size (Nat.le_refl _)
  have hl : s.data.toList.length = s.size := by simp
  unfold spV
  constructor
  · rw [List.map_append, List.flatten_append]
    simp only [List.map_cons, List.map_nil, List.flatten_cons, List.flatten_nil, List.append_nil]
    rw [extract_list, ← List.append_assoc, ← i1, List.take_of_length_le (by omega)]
  · intro x hx
    rcases List.mem_append.1 hx with q | q
    · exact i2 x q
    · rw [List.mem_singleton.1 q, extract_list]; exact i3

/-- Two parts: what stands before and behind the only e. -/
theorem spV_two (s x y : ByteArray) (h : spV s = [x, y]) : s.data.toList = x.data.toList ++ [101] ++ y.data.toList ∧ (101 : UInt8) ∉ x.data.toList ∧ (101 : UInt8) ∉ y.data.toList := by
  obtain ⟨h1, h2⟩ := spV_inv s
  rw [h] at h1 h2
  refine ⟨?_, h2 x (by simp), h2 y (by simp)⟩
  simp only [List.map_cons, List.map_nil, List.flatten_cons, List.flatten_nil, List.append_nil] at h1
  rw [← List.append_assoc] at h1
  exact List.append_cancel_right h1

theorem spV_len (s : ByteArray) : (spV s).length = s.data.toList.count 101 + 1 := by
  obtain ⟨h1, h2⟩ := spV_inv s
  have e : (s.data.toList ++ [101]).count 101 = s.data.toList.count 101 + 1 := by rw [List.count_append]; rfl
  rw [← e, h1]
  generalize spV s = P at *
  clear h1 e
  induction P with
  | nil => rfl
  | cons x P ih =>
    rw [List.map_cons, List.flatten_cons, List.count_append, ← ih (fun z hz => h2 z (by simp [hz])), List.count_append, List.count_eq_zero.2 (h2 x (by simp))]
    simp
    omega

theorem spV_of (s : ByteArray) (a b : List UInt8) (h : s.data.toList = a ++ [101] ++ b) (ha : (101 : UInt8) ∉ a) (hb : (101 : UInt8) ∉ b) : spV s = [⟨a.toArray⟩, ⟨b.toArray⟩] := by
  have hl := spV_len s
  rw [h, List.count_append, List.count_append, List.count_eq_zero.2 ha, List.count_eq_zero.2 hb] at hl
  obtain ⟨x, y, hxy⟩ : ∃ x y, spV s = [x, y] := by
    cases q : spV s with
    | nil => rw [q] at hl; simp at hl
    | cons x r => cases r with
      | nil => rw [q] at hl; simp at hl
      | cons y r => cases r with
        | nil => exact ⟨x, y, rfl⟩
        | cons z r => rw [q] at hl; simp at hl
  obtain ⟨g1, g2, g3⟩ := spV_two s x y hxy
  rw [h] at g1
  have fi : ∀ (u v u' v' : List UInt8), (101 : UInt8) ∉ u → (101 : UInt8) ∉ u' → u ++ [101] ++ v = u' ++ [101] ++ v' → u = u' ∧ v = v' := by
    intro u
    induction u with
    | nil => intro v u' v' _ h2 e
             cases u' with
             | nil => exact ⟨rfl, by simpa using e⟩
             | cons c u' => simp at e; exact absurd (by rw [← e.1]; simp) h2
    | cons d u ih => intro v u' v' h1 h2 e
                     cases u' with
                     | nil => simp at e; exact absurd (by rw [e.1]; simp) h1
                     | cons c u' =>
                       simp only [List.cons_append, List.cons.injEq] at e
                       obtain ⟨r1, r2⟩ := ih v u' v' (fun q => h1 (by simp [q])) (fun q => h2 (by simp [q])) e.2
                       exact ⟨by rw [e.1, r1], r2⟩
  obtain ⟨r1, r2⟩ := fi _ _ _ _ ha g2 g1
  rw [hxy, r1, r2]
end Go.Proofs.YtmddlbphanlfhaaGreatDoor

