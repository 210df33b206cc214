/-
  Contracts of the functions that the laws reach, and the plain facts that they rest on, each under the conditions that its line names; part 22.
-/
import Derived.Test.YtjebechmedhidaaKsx1
import Derived.Test.YtjebechmedhidaaKsx2
import Derived.Test.YtjebechmedhidaaKsx3
import Derived.Test.YtjebechmedhidaaKsx4
import Derived.Test.YtjebechmedhidaaKsx5
import Derived.Test.YtjebechmedhidaaKsx6
import Derived.Test.YtjebechmedhidaaRows
import Derived.WalkKit
import Derived.LoopTactic
import Derived.LoopN
import Derived.Deep.OwnRows
import Derived.Deep.LoopGhost
import Derived.Laws.Bits64b
import Derived.WalkSpells
import Derived.WalkLawsBesides
import Derived.StillTactics
import Derived.Laws.Pointers
import Derived.Deep.RegionHeld3
import Derived.Deep.QuietTactic
import Derived.BigQuiet
import Derived.Outline
import Derived.Lib.Hide
import Derived.RowKit3
import Derived.Carry
import Derived.IntWalk
import Derived.Lib.BitFns
import Derived.Lib.TrailingZeros
namespace Go.Proofs.Ytjebechmedhidaa
open Go Go.RowKit
set_option linter.unusedSimpArgs false
set_option linter.unusedVariables false
set_option maxRecDepth 100000

/-- A slice that holds n numbers, or has none. -/
def HoldsL (w : World) (p : Option Addr) (n : Nat) (V : Nat → Int) : Prop := 0 < n → ∃ a, p = some a ∧ a.block < w.heap.size ∧ ∀ i, i < n → w.cell? (a.add i) = some (.int .i64 (V i))

theorem HoldsL.ext {w w' : World} {p : Option Addr} {n : Nat} {V : Nat → Int} (h : HoldsL w p n V) (hx : Ext w w') : HoldsL w' p n V := fun hn => by
  obtain ⟨a, rfl, ha, hc⟩ := h hn
  have := hx.size
  refine ⟨a, rfl, by omega, fun i hi => (Below.cell (p := a.add i) hx ?_).trans (hc i hi)⟩
  have e : (a.add i).block = a.block := (by unfold Addr.add; split <;> rfl)
  rw [e]; exact ha

theorem HoldsL.row {w : World} {b n : Nat} {V : Nat → Int} (h : w.rowIs b 3 n (fun i => .int .i64 (V i))) : HoldsL w (some ⟨b, 0, none⟩) n V := fun _ =>
  ⟨⟨b, 0, none⟩, rfl, h.lt, fun i hi => by have := h.cell hi; simp only [Addr.add]; split; · rename_i h0; subst h0; simpa using this
                                           · simpa using this⟩
end Go.Proofs.Ytjebechmedhidaa

