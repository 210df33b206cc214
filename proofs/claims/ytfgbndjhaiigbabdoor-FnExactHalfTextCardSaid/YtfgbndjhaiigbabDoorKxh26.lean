/-
  Contracts of the functions that the laws reach, and the plain facts that they rest on, each under the conditions that its line names; part 26.
-/
import Derived.Test.YtfgbndjhaiigbabDoorKxh1
import Derived.Test.YtfgbndjhaiigbabDoorKxh2
import Derived.Test.YtfgbndjhaiigbabDoorKxh3
import Derived.Test.YtfgbndjhaiigbabDoorKxh4
import Derived.Test.YtfgbndjhaiigbabDoorKxh5
import Derived.Test.YtfgbndjhaiigbabDoorKxh6
import Derived.Test.YtfgbndjhaiigbabDoorKxh22
import Derived.Test.YtfgbndjhaiigbabDoorKxh24
import Derived.Test.YtfgbndjhaiigbabDoorRows
import Derived.WalkKit
import Derived.LoopTactic
import Derived.Laws.Bits64b
import Derived.WalkSpells
import Derived.WalkLawsBesides
import Derived.StillTactics
import Derived.Laws.Pointers
import Derived.Deep.RegionHeld3
import Derived.Deep.QuietTactic
import Derived.BigQuiet
import Derived.Outline
import Derived.Lib.Hide
import Derived.RowKit3
import Derived.Carry
import Derived.IntWalk
import Derived.Lib.ItoaNum
import Derived.Laws.BytesString
namespace Go.Proofs.YtfgbndjhaiigbabDoor
open Go Go.RowKit
set_option linter.unusedSimpArgs false
set_option linter.unusedVariables false
set_option maxRecDepth 100000

/-- A sign ahead of a text. -/
def sgT (s : Int) : List UInt8 := if s = 1 then [45] else []

theorem sgT_length (s : Int) : (sgT s).length ≤ 1 := by unfold sgT; split <;> simp

theorem str_two (a b : List UInt8) : ((⟨a.toArray⟩ : ByteArray) ++ ⟨b.toArray⟩) = ⟨(a ++ b).toArray⟩ := by
  apply ByteArray.ext
  simp [ByteArray.data_append]

theorem sgn_01 {e f p : Int} (hp : patB e f p = true) : p / pw (e + f) = 0 ∨ p / pw (e + f) = 1 := by
  obtain ⟨_, p0, p1⟩ := pat_iff.1 hp
  have := pw_pos (e + f)
  have h0 : 0 ≤ p / pw (e + f) := Int.ediv_nonneg p0 (by omega)
  have h1 : p / pw (e + f) < 2 := Int.ediv_lt_of_lt_mul (by omega) p1
  omega

theorem rep_sign (m : Int) (hm : m = 0 ∨ m = 1) (w : World) : Calls Tryd.prog 130 #[.string ⟨#[45]⟩, .int .i64 m] w fun rv w' => rv = .returned (.string ⟨(sgT m).toArray⟩) ∧ Ext w w' := by
  rcases hm with rfl | rfl
  · exact (Tryd.strings_Repeat_zero ⟨#[45]⟩ w).mono fun _ _ ⟨he, hw⟩ => ⟨he, hw ▸ Ext.refl _⟩
  · exact (Tryd.strings_Repeat_one ⟨#[45]⟩ w).mono fun _ _ ⟨he, hw⟩ => ⟨he, hw ▸ Ext.refl _⟩

theorem txSigned_any (e f a : Int) (x : ByteArray) (hp : patB e f a = true) (hx : x.size ≤ 1000) (w : World) : Calls Tryd.prog 131 #[fmt e f, .int .i64 a, .string x] w fun rv w' => rv = .returned (.string ((⟨(sgT (a / pw (e + f))).toArray⟩ : ByteArray) ++ x)) ∧ Ext w w' := by
  obtain ⟨hg, p0, p1⟩ := pat_iff.1 hp
  have FS := Lib.hid (fun w => fmSign_any e f a hg p0 w)
  have c1 : ¬ 9223372036854775807 < 1 + x.size := by omega
  clear hp hg p0 p1 hx
  generalize (a / pw (e + f)) = s at *
  by_cases h : s = 1
  · have q : (s == 1) = true := by simpa using h
    have e1 : sgT s = [45] := if_pos h
    rw [e1]
    clear h e1
    go_enter Tryd.func131, Tryd.ntmps131
    go_wp2_with (go_at_call 92; refine (FS.out _).mono ?_; rintro rv w1 ⟨rfl, hb⟩; have ns : w.heap.size < w1.heap.size := hb.ltK; have n0 : w1.cell? ⟨w.heap.size, 0, none⟩ = some (.int .i64 e) := hb.cellK; have n1 : w1.cell? ⟨w.heap.size, 1, none⟩ = some (.int .i64 f) := hb.cellK; (first | (have nx := hx.trK hb; clear hx) | have nx := hb); clear hb; try clear hs; try clear g0; try clear g1; have hx := nx; clear nx; have hs := ns; clear ns; have g0 := n0; clear n0; have g1 := n1; clear n1)
    go_ret
    exact ⟨rfl, Ext.auK⟩
  · have q : (s == 1) = false := by simpa using h
    have e1 : sgT s = [] := if_neg h
    have e2 : ((⟨([] : List UInt8).toArray⟩ : ByteArray) ++ x) = x := by
      apply ByteArray.ext
      simp [ByteArray.data_append]
    rw [e1, e2]
    clear h e1 e2
    go_enter Tryd.func131, Tryd.ntmps131
    go_wp2_with (go_at_call 92; refine (FS.out _).mono ?_; rintro rv w1 ⟨rfl, hb⟩; have ns : w.heap.size < w1.heap.size := hb.ltK; have n0 : w1.cell? ⟨w.heap.size, 0, none⟩ = some (.int .i64 e) := hb.cellK; have n1 : w1.cell? ⟨w.heap.size, 1, none⟩ = some (.int .i64 f) := hb.cellK; (first | (have nx := hx.trK hb; clear hx) | have nx := hb); clear hb; try clear hs; try clear g0; try clear g1; have hx := nx; clear nx; have hs := ns; clear ns; have g0 := n0; clear n0; have g1 := n1; clear n1)
    go_ret
    exact ⟨rfl, Ext.auK⟩
end Go.Proofs.YtfgbndjhaiigbabDoor

