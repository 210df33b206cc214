/-
  Contracts of the functions that the laws reach, and the plain facts that they rest on, each under the conditions that its line names; part 31.
-/
import Derived.Test.YtmddlbphanlfhaaGreatDoorKps1
import Derived.Test.YtmddlbphanlfhaaGreatDoorKps2
import Derived.Test.YtmddlbphanlfhaaGreatDoorKps3
import Derived.Test.YtmddlbphanlfhaaGreatDoorKps4
import Derived.Test.YtmddlbphanlfhaaGreatDoorKps5
import Derived.Test.YtmddlbphanlfhaaGreatDoorKps6
import Derived.Test.YtmddlbphanlfhaaGreatDoorKps7
import Derived.Test.YtmddlbphanlfhaaGreatDoorKps8
import Derived.Test.YtmddlbphanlfhaaGreatDoorKps9
import Derived.Test.YtmddlbphanlfhaaGreatDoorKps10
import Derived.Test.YtmddlbphanlfhaaGreatDoorKps12
import Derived.Test.YtmddlbphanlfhaaGreatDoorKps27
import Derived.Test.YtmddlbphanlfhaaGreatDoorKps28
import Derived.Test.YtmddlbphanlfhaaGreatDoorKps29
import Derived.Test.YtmddlbphanlfhaaGreatDoorKps30
import Derived.Test.YtmddlbphanlfhaaGreatDoorRows
import Derived.WalkKit
import Derived.LoopTactic
import Derived.Laws.Bits64b
import Derived.WalkSpells
import Derived.WalkLawsBesides
import Derived.StillTactics
import Derived.Laws.Pointers
import Derived.Deep.RegionHeld3
import Derived.Deep.QuietTactic
import Derived.BigQuiet
import Derived.Outline
import Derived.Lib.Hide
import Derived.RowKit3
import Derived.Carry
import Derived.IntWalk
import Derived.Lib.SmallJoins
import Derived.Shelf.Strings.SlTrimAscii
import Derived.Lib.ItoaNum
import Derived.Laws.BytesString
namespace Go.Proofs.YtmddlbphanlfhaaGreatDoor
open Go Go.RowKit
set_option linter.unusedSimpArgs false
set_option linter.unusedVariables false
set_option maxRecDepth 100000

/-- All blocks but two are left as they were. -/
structure EX (p q : Nat) (w w' : World) : Prop where
  os : w'.os = w.os
  tape : w'.tape = w.tape
  output : w'.output = w.output
  size : w.heap.size ≤ w'.heap.size
  block : ∀ k, k < w.heap.size → k ≠ p → k ≠ q → w'.heap[k]? = w.heap[k]?

theorem EX.ofExt {p q : Nat} {a b : World} (h : Ext a b) : EX p q a b := ⟨Below.os h, Below.tape h, Below.output h, Below.size h, fun k hk _ _ => h.heap k hk⟩

theorem EX.refl (p q : Nat) (a : World) : EX p q a a := ⟨rfl, rfl, rfl, Nat.le_refl _, fun _ _ _ _ => rfl⟩

theorem EX.trans {p q : Nat} {a b c : World} (h : EX p q a b) (k : EX p q b c) : EX p q a c :=
  ⟨k.os.trans h.os, k.tape.trans h.tape, k.output.trans h.output, Nat.le_trans h.size k.size, fun i hi h1 h2 => (k.block i (Nat.lt_of_lt_of_le hi h.size) h1 h2).trans (h.block i hi h1 h2)⟩

theorem EX.ext {p q : Nat} {a b c : World} (h : EX p q a b) (k : Ext b c) : EX p q a c := h.trans (EX.ofExt k)

theorem EX.alloc {p q : Nat} {a b : World} (h : EX p q a b) (o : Obj) : EX p q a (b.alloc o) := h.ext (Ext.new b o)

theorem EX.setc {p q g : Nat} {a b : World} (h : EX p q a b) (hg : g = p ∨ g = q ∨ a.heap.size ≤ g) (o : Nat) (v : Value) : EX p q a (b.setCell ⟨g, o, none⟩ v) :=
  ⟨h.os, h.tape, h.output, Nat.le_trans h.size (by simp [World.setCell]), fun k hk h1 h2 => (Below.heap_setCell b ⟨g, o, none⟩ v k (by show k ≠ g; omega)).trans (h.block k hk h1 h2)⟩

/-- The blocks that are turned are new ones. -/
theorem EX.own {p q r s : Nat} {a b c : World} (h : EX p q a b) (k : EX r s b c) (hr : a.heap.size ≤ r) (hs : a.heap.size ≤ s) : EX p q a c :=
  ⟨k.os.trans h.os, k.tape.trans h.tape, k.output.trans h.output, Nat.le_trans h.size k.size, fun i hi h1 h2 => (k.block i (Nat.lt_of_lt_of_le hi h.size) (by omega) (by omega)).trans (h.block i hi h1 h2)⟩

theorem EX.out {p q : Nat} {a b c : World} (h : Ext a b) (k : EX p q b c) (hp : a.heap.size ≤ p) (hq : a.heap.size ≤ q) : Ext a c :=
  ⟨k.os.trans (Below.os h), k.tape.trans (Below.tape h), k.output.trans (Below.output h), Nat.le_trans (Below.size h) k.size, fun i hi => (k.block i (h.lt hi) (by omega) (by omega)).trans (h.heap i hi)⟩

theorem EX.cell {p q g o : Nat} {a b : World} {v : Value} (h : EX p q a b) (hc : a.cell? ⟨g, o, none⟩ = some v) (hg : g < a.heap.size) (h1 : g ≠ p) (h2 : g ≠ q) : b.cell? ⟨g, o, none⟩ = some v :=
  (World.cell?_of_block (h.block g hg h1 h2)).trans hc

theorem EX.frz {p q g o : Nat} {a b : World} {x : Bool} (h : EX p q a b) (hc : a.frozen? ⟨g, o, none⟩ = x) (hg : g < a.heap.size) (h1 : g ≠ p) (h2 : g ≠ q) : b.frozen? ⟨g, o, none⟩ = x :=
  (World.frozen?_of_block (h.block g hg h1 h2)).trans hc

theorem EX.lt {p q : Nat} {a b : World} (h : EX p q a b) {k : Nat} (hk : k < a.heap.size) : k < b.heap.size := Nat.lt_of_lt_of_le hk h.size

/-- What Atoi's number is, whatever its error says. -/
def anV (l : List UInt8) : Int := match Lib.atoiAll l with | .ok v => v | .syntax => 0 | .range => Lib.atoiSat l

theorem anV_bd (l : List UInt8) : -9223372036854775808 ≤ anV l ∧ anV l ≤ 9223372036854775807 := by
  unfold anV
  split
  · rename_i v h; exact Lib.atoiAll_bounds h
  · exact ⟨by decide, by decide⟩
  · exact Lib.atoiSat_bounds l

/-- The library's variables that reading a number asks. -/
def isEv (ev : Value) : Prop := ev = .nilIface ∨ ∃ te pe, ev = .iface te pe

def TPE (w : World) : Prop := TXW w ∧ TW w ∧ (∃ ev, 0 < w.heap.size ∧ w.cell? ⟨0, 0, none⟩ = some ev ∧ isEv ev) ∧ ∃ ev, 1 < w.heap.size ∧ w.cell? ⟨1, 0, none⟩ = some ev ∧ isEv ev

theorem TPE.ext {a b : World} (h : TPE a) (x : Ext a b) : TPE b := by
  obtain ⟨h0, h00, ⟨e, h3, h4, h5⟩, e', h6, h7, h8⟩ := h
  exact ⟨h0.ext x, h00.ext x, ⟨e, x.lt h3, (x.cells _ _ h3).trans h4, h5⟩, e', x.lt h6, (x.cells _ _ h6).trans h7, h8⟩

/-- They are still there, though block L has been written. -/
def TPL (L : Nat) (w : World) : Prop := ∃ w0, TPE w0 ∧ w0.heap.size ≤ L ∧ EX L L w0 w

theorem TPL.tpe {L : Nat} {w : World} (h : TPL L w) : TPE w := by
  obtain ⟨w0, h0, h1, h2⟩ := h
  exact h0.ext (EX.out (Ext.refl w0) h2 h1 h1)

theorem TPL.ex {L : Nat} {a b : World} (h : TPL L a) (k : EX L L a b) : TPL L b := by
  obtain ⟨w0, h0, h1, h2⟩ := h
  exact ⟨w0, h0, h1, h2.trans k⟩

theorem TPL.ext {L : Nat} {a b : World} (h : TPL L a) (k : Ext a b) : TPL L b := h.ex (EX.ofExt k)

theorem anAtoi_any (s : ByteArray) (hs : s.size ≤ 1048576) (w : World) (hT : TPE w) : Calls Tryz.prog 46 #[.string s] w fun rv w' => (∃ e, rv = .returned (.tuple #[.int .i64 (anV s.data.toList), e])) ∧ Ext w w' := by
  obtain ⟨_, _, ⟨e1, _, h3, h4⟩, e2, _, h5, h6⟩ := hT
  cases h : Lib.atoiAll s.data.toList
  · rename_i v
    have ev : anV s.data.toList = v := by unfold anV; rw [h]
    exact (Tryz.strconv_Atoi_ok s (by omega) v h w).mono fun _ _ ⟨he, hw⟩ => ⟨by rw [ev]; exact ⟨_, he⟩, by
      rcases hw with rfl | ⟨t, rfl⟩
      · exact Ext.refl _
      · exact Go.Joins.below_bytesWorld _ _ _ _ (Nat.le_refl _)⟩
  · have ev : anV s.data.toList = 0 := by unfold anV; rw [h]
    exact (Tryz.strconv_Atoi_syntax s (by omega) h e1 w h3 h4).mono fun _ _ ⟨_, he, _, _, hw⟩ => ⟨by rw [ev]; exact ⟨_, he⟩, hw⟩
  · have ev : anV s.data.toList = Lib.atoiSat s.data.toList := by unfold anV; rw [h]
    exact (Tryz.strconv_Atoi_range s (by omega) h e2 w h5 h6).mono fun _ _ ⟨_, he, _, _, hw⟩ => ⟨by rw [ev]; exact ⟨_, he⟩, hw⟩

/-- The bytes of numbers. -/
def nmC (c : UInt8) : Bool := ([45, 48, 49, 50, 51, 52, 53, 54, 55, 56, 57] : List UInt8).contains c

theorem nm_ascii : ∀ (j : Nat) b, (⟨#[45, 48, 49, 50, 51, 52, 53, 54, 55, 56, 57]⟩ : ByteArray).data.toList[j]? = some b → b.toNat < 128 := ascii_of_all (by decide)

theorem trimNum_any (s : ByteArray) (w : World) : Calls Tryz.prog 45 #[.string s, .string ⟨#[45, 48, 49, 50, 51, 52, 53, 54, 55, 56, 57]⟩] w fun rv w' => rv = .returned (.string ⟨(s.data.toList.dropWhile nmC).toArray⟩) ∧ Ext w w' :=
  Any.strings_TrimLeft_laid Tryz.lays161 (by kernel_rfl) s ⟨#[45, 48, 49, 50, 51, 52, 53, 54, 55, 56, 57]⟩ w (by decide) nm_ascii

theorem run_store_fun {P : Program} (w : World) (a : Addr) (m : Mode) (f : Fn) (x c : Array Value) : (store a (.func f x c) m).run P w = stored P w a (.func f x c) m := run_store P w a _ m rfl

attribute [local go_sem] run_store_fun

/-- The reader's three functions over one box. -/
def rdR (L : Nat) : Value := .agg #[.func (.func 42) #[] #[.pointer (some ⟨L, 0, none⟩)], .func (.func 44) #[] #[.pointer (some ⟨L, 0, none⟩)], .func (.func 48) #[] #[.pointer (some ⟨L, 0, none⟩)]]

theorem readerOf_any (s : ByteArray) (w : World) : Calls Tryz.prog 24 #[.string s] w fun rv w' => rv = .returned (rdR w.heap.size) ∧ w'.cell? ⟨w.heap.size, 0, none⟩ = some (.string s) ∧ w'.frozen? ⟨w.heap.size, 0, none⟩ = false ∧ w.heap.size < w'.heap.size ∧ Ext w w' := by
  have hmf : ∀ (fn : Fn) (first cap : Array Value) (w : World), (Instr.makeFunc fn first cap).run Tryz.prog w = .ok (.func fn first cap) w := fun _ _ _ _ => rfl
  go_enter Tryz.func24, Tryz.ntmps24
  go_wp2_with fail
  exact bodyPost_ret (v := rdR w.heap.size) (by simp [results, Tryz.results24, go_sem, rdR, *]) rfl ⟨rfl, by simp [go_sem], by simp [go_sem], by simp <;> omega, Ext.auK⟩

/-- What a closure leaves of the text, in its box. -/
def LeftIs (L : Nat) (s : ByteArray) (w : World) : Prop := w.cell? ⟨L, 0, none⟩ = some (.string s) ∧ w.frozen? ⟨L, 0, none⟩ = false ∧ L < w.heap.size

theorem word_any (L : Nat) (s x : ByteArray) (w : World) (hL : LeftIs L s w) : Calls Tryz.prog 42 #[.string x, .pointer (some ⟨L, 0, none⟩)] w fun rv w' => rv = .returned (.bool (Lib.hasPrefix s.data.toList x.data.toList)) ∧ w'.heap.size = w.heap.size ∧ LeftIs L ⟨(Lib.trimPrefix s.data.toList x.data.toList).toArray⟩ w' ∧ EX L L w w' := by
  obtain ⟨c0, z0, l0⟩ := hL
  have CU := Lib.hid (fun w => Tryz.strings_CutPrefix s x w)
  generalize Lib.trimPrefix s.data.toList x.data.toList = r at *
  generalize Lib.hasPrefix s.data.toList x.data.toList = B at *
  go_enter Tryz.func42, Tryz.ntmps42
  go_wp2_with (go_at_call 43; refine (CU.out _).mono ?_; rintro rv w1 ⟨rfl, hw⟩; subst hw)
  go_ret
  exact ⟨rfl, by simp [World.setCell], ⟨World.cell?_setCell_same' _ _ _ (by rw [c0]; rfl), by rw [World.frozen?_setCell]; exact z0, by simpa [World.setCell] using l0⟩, (EX.refl L L _).setc (.inl rfl) 0 _⟩

theorem take_nm (s : ByteArray) : (s.extract 0 (s.size - (s.data.toList.dropWhile nmC).length)).data.toList = s.data.toList.takeWhile nmC := by
  rw [extract_list, List.drop_zero]
  have h := List.takeWhile_append_dropWhile (p := nmC) (l := s.data.toList)
  have hl := congrArg List.length h
  rw [List.length_append] at hl
  have e0 : s.data.toList.length = s.size := by simp
  have e : s.size - (s.data.toList.dropWhile nmC).length = (s.data.toList.takeWhile nmC).length := by
    omega
  rw [e]
  have q := List.take_left (l₁ := s.data.toList.takeWhile nmC) (l₂ := s.data.toList.dropWhile nmC)
  rw [h] at q
  exact q

set_option maxHeartbeats 3200000 in
theorem number_any (L : Nat) (s : ByteArray) (hs : s.size ≤ 1048576) (w : World) (hL : LeftIs L s w) (hT : TPL L w) : Calls Tryz.prog 44 #[.pointer (some ⟨L, 0, none⟩)] w fun rv w' => rv = .returned (.tuple #[.int .i64 (anV (s.data.toList.takeWhile nmC)), .bool (Lib.itoa (anV (s.data.toList.takeWhile nmC)) == s.data.toList.takeWhile nmC)]) ∧ LeftIs L ⟨(s.data.toList.dropWhile nmC).toArray⟩ w' ∧ EX L L w w' := by
  obtain ⟨c0, z0, l0⟩ := hL
  have hd : (s.data.toList.dropWhile nmC).length ≤ s.size := by
    have := (List.dropWhile_sublist (p := nmC) (l := s.data.toList)).length_le
    rw [Array.length_toList] at this
    exact this
  have TR := Lib.hid (fun w => trimNum_any s w)
  have SZ : (⟨(s.data.toList.dropWhile nmC).toArray⟩ : ByteArray).size = (s.data.toList.dropWhile nmC).length := by show (s.data.toList.dropWhile nmC).toArray.size = _; simp
  have SL : ∀ w, (Instr.slice 9 (.string s) none (some (.int .i64 ((s.size : Int) - ((s.data.toList.dropWhile nmC).length : Int)))) none).run Tryz.prog w = .ok (.string (s.extract 0 (s.size - (s.data.toList.dropWhile nmC).length))) w := fun w => by
    have e : (s.size : Int) - ((s.data.toList.dropWhile nmC).length : Int) = ((s.size - (s.data.toList.dropWhile nmC).length : Nat) : Int) := by omega
    rw [e, run_slice_string_to_if _ _ _ _ _ Tryz.underlying9, if_pos ⟨by omega, by omega⟩]; rfl
  have AT := fun w hT => anAtoi_any (s.extract 0 (s.size - (s.data.toList.dropWhile nmC).length)) (by simp; omega) w hT
  have TK := take_nm s
  rw [TK] at AT
  have EQ : ((Lib.itoa (anV (s.data.toList.takeWhile nmC))) == (s.extract 0 (s.size - (s.data.toList.dropWhile nmC).length)).toList) = (Lib.itoa (anV (s.data.toList.takeWhile nmC)) == s.data.toList.takeWhile nmC) := by rw [ByteArray.toList_eq, TK]
  obtain ⟨n0, n1⟩ := anV_bd (s.data.toList.takeWhile nmC)
  have IT := Lib.hid (fun w hT => itoa_any (anV (s.data.toList.takeWhile nmC)) n0 n1 w hT)
  have AT := Lib.hid AT
  have w1 : IntKind.i64.wrap ((s.size : Int) - ((s.data.toList.dropWhile nmC).length : Int)) = (s.size : Int) - ((s.data.toList.dropWhile nmC).length : Int) := IntWalk.i64_in _ (by omega)
  clear TK n0 n1
  have EQ := Lib.hid EQ
  generalize (s.data.toList.dropWhile nmC).length = m at *
  generalize s.extract 0 (s.size - m) = p at *
  generalize (Lib.itoa (anV (s.data.toList.takeWhile nmC)) == s.data.toList.takeWhile nmC) = B at *
  generalize anV (s.data.toList.takeWhile nmC) = n at *
  generalize hit : Lib.itoa n = it at *
  have SZ2 : (⟨(s.data.toList.dropWhile nmC).toArray⟩ : ByteArray).size = m := SZ
  generalize (⟨(s.data.toList.dropWhile nmC).toArray⟩ : ByteArray) = r at *
  clear SZ
  go_enter Tryz.func44, Tryz.ntmps44
  go_wp2_with (first | (go_at_call 45; refine (TR.out _).mono ?_; rintro rv w2 ⟨rfl, hb⟩; have c2 := (hb.cells _ _ l0).trans c0; have z2 := (hb.frz _ _ l0).trans z0; have l2 := hb.lt l0; have T2 := hT.ext hb; have hx2 := hb; clear hb) | (go_at_call 46; refine (AT.out _ (TPL.tpe (TPL.ex T2 (EX.setc (EX.refl L L w2) (.inl rfl) 0 _)))).mono ?_; rintro rv w3 ⟨⟨ee, rfl⟩, hb⟩; have c3 : w3.cell? ⟨L, 0, none⟩ = some (.string r) := (hb.cells _ _ (by simpa [World.setCell] using l2)).trans (World.cell?_setCell_same' _ _ _ (by rw [c2]; rfl)); have z3 : w3.frozen? ⟨L, 0, none⟩ = false := (hb.frz _ _ (by simpa [World.setCell] using l2)).trans (by rw [World.frozen?_setCell]; exact z2); have l3 : L < w3.heap.size := hb.lt (by simpa [World.setCell] using l2); have x3 : EX L L w w3 := EX.ext (EX.setc (EX.ofExt hx2) (.inl rfl) 0 _) hb; clear hb) | (go_at_call 47; refine (IT.out _ (TPL.tpe (hT.ex x3)).1).mono ?_; rintro rv w4 ⟨rfl, hb⟩; have c4 := (hb.cells _ _ l3).trans c3; have z4 := (hb.frz _ _ l3).trans z3; have l4 := hb.lt l3; have x4 := x3.ext hb; clear hb))
  go_ret2
  exact ⟨by rw [← EQ.out]; rfl, ⟨c4, z4, l4⟩, x4⟩

theorem end_any (L : Nat) (s : ByteArray) (w : World) (hL : LeftIs L s w) : Calls Tryz.prog 48 #[.pointer (some ⟨L, 0, none⟩)] w fun rv w' => rv = .returned (.bool s.toList.isEmpty) ∧ w = w' := by
  obtain ⟨c0, z0, l0⟩ := hL
  go_enter Tryz.func48, Tryz.ntmps48
  go_wp2_with fail
  go_ret
  exact ⟨rfl, rfl⟩
end Go.Proofs.YtmddlbphanlfhaaGreatDoor

