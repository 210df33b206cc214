/-
  Contracts of the functions that the laws reach, and the plain facts that they rest on, each under the conditions that its line names; part 35.
-/
import Derived.Test.YtfgbndjhaiigbaaGreatDoorKri1
import Derived.Test.YtfgbndjhaiigbaaGreatDoorKri2
import Derived.Test.YtfgbndjhaiigbaaGreatDoorKri3
import Derived.Test.YtfgbndjhaiigbaaGreatDoorKri4
import Derived.Test.YtfgbndjhaiigbaaGreatDoorKri5
import Derived.Test.YtfgbndjhaiigbaaGreatDoorKri14
import Derived.Test.YtfgbndjhaiigbaaGreatDoorKri30
import Derived.Test.YtfgbndjhaiigbaaGreatDoorKri32
import Derived.Test.YtfgbndjhaiigbaaGreatDoorKri34
import Derived.Test.YtfgbndjhaiigbaaGreatDoorRows
import Derived.WalkKit
import Derived.LoopTactic
import Derived.Laws.Bits64b
import Derived.WalkSpells
import Derived.WalkLawsBesides
import Derived.StillTactics
import Derived.Laws.Pointers
import Derived.Deep.RegionHeld3
import Derived.Deep.QuietTactic
import Derived.BigQuiet
import Derived.Outline
import Derived.Lib.Hide
import Derived.RowKit3
import Derived.Carry
import Derived.IntWalk
import Derived.LoopN
import Derived.Maps.RangeWalk
import Derived.Maps.OwnSet
import Derived.DeepKeys4
namespace Go.Proofs.YtfgbndjhaiigbaaGreatDoor
open Go Go.RowKit Go.Maps
set_option linter.unusedSimpArgs false
set_option linter.unusedVariables false
set_option maxRecDepth 100000

section

variable {ops : Array Oper} {rest : List Oper} {o : Oper} {a : Act} {Q : Exit → Act → World → Prop}

end

theorem IvS.block {w w' : World} {b n : Nat} {E : Int → Int → Bool} (h : IvS w b n E) (h1 : w'.heap[b]? = w.heap[b]?) : IvS w' b n E := by
  obtain ⟨D, ⟨es, clock, hb, r⟩, k⟩ := h
  exact ⟨D, ⟨es, clock, h1.trans hb, r⟩, k⟩

theorem IvR.block {w w' : World} {b r n cnt : Nat} {E L : Int → Int → Bool} (h : IvR w b r n E L cnt) (h1 : w'.heap[b]? = w.heap[b]?) (h2 : w'.heap[r]? = w.heap[r]?) : IvR w' b r n E L cnt := by
  obtain ⟨D, left, ⟨es, clock, since, seen, c0, hb, F, hs, hD, hr, q⟩, k⟩ := h
  exact ⟨D, left, ⟨es, clock, since, seen, c0, h1.trans hb, F, hs, hD, h2.trans hr, q⟩, k⟩

theorem IvR.setCell {w : World} {b r n cnt : Nat} {E L : Int → Int → Bool} (h : IvR w b r n E L cnt) {a : Addr} (v : Value) (h1 : b ≠ a.block) (h2 : r ≠ a.block) : IvR (w.setCell a v) b r n E L cnt :=
  h.block (Below.heap_setCell _ _ _ _ h1) (Below.heap_setCell _ _ _ _ h2)

theorem IvR.alloc {w : World} {b r n cnt : Nat} {E L : Int → Int → Bool} (h : IvR w b r n E L cnt) (o : Obj) : IvR (w.alloc o) b r n E L cnt := h.ext (Ext.new _ _)
end Go.Proofs.YtfgbndjhaiigbaaGreatDoor

