/-
  Contracts of the functions that the laws reach, and the plain facts that they rest on, each under the conditions that its line names; part 23.
-/
import Derived.Test.YtdagfocpbnamfaaKbw1
import Derived.Test.YtdagfocpbnamfaaKbw2
import Derived.Test.YtdagfocpbnamfaaKbw3
import Derived.Test.YtdagfocpbnamfaaKbw4
import Derived.Test.YtdagfocpbnamfaaKbw5
import Derived.Test.YtdagfocpbnamfaaKbw6
import Derived.Test.YtdagfocpbnamfaaKbw7
import Derived.Test.YtdagfocpbnamfaaKbw8
import Derived.Test.YtdagfocpbnamfaaKbw9
import Derived.Test.YtdagfocpbnamfaaKbw10
import Derived.Test.YtdagfocpbnamfaaKbw11
import Derived.Test.YtdagfocpbnamfaaKbw12
import Derived.Test.YtdagfocpbnamfaaKbw13
import Derived.Test.YtdagfocpbnamfaaKbw14
import Derived.Test.YtdagfocpbnamfaaKbw16
import Derived.Test.YtdagfocpbnamfaaKbw17
import Derived.Test.YtdagfocpbnamfaaKbw18
import Derived.Test.YtdagfocpbnamfaaKbw19
import Derived.Test.YtdagfocpbnamfaaKbw20
import Derived.Test.YtdagfocpbnamfaaKbw21
import Derived.Test.YtdagfocpbnamfaaKbw22
import Derived.Test.YtdagfocpbnamfaaRows
import Derived.WalkKit
import Derived.LoopTactic
import Derived.LoopN
import Derived.Laws.OwnMore
import Derived.OwnWalk
import Derived.Deep.AppendLies
import Derived.Laws.Bits64b
import Derived.WalkSpells
import Derived.WalkLawsBesides
import Derived.StillTactics
import Derived.Laws.Pointers
import Derived.Deep.RegionHeld3
import Derived.Deep.QuietTactic
import Derived.BigQuiet
import Derived.Outline
import Derived.Lib.Hide
import Derived.RowKit3
import Derived.Carry
import Derived.IntWalk
namespace Go.Proofs.Ytdagfocpbnamfaa
open Go Go.RowKit
set_option linter.unusedSimpArgs false
set_option linter.unusedVariables false
set_option maxRecDepth 100000

theorem own_ext {w w' : World} {base : Nat} {e : TypeId} {size : Nat} {v : Value} {n : Nat} {xs : List Value} (h : w.ownsRow base e size v n xs) (hb : Ext w w') : w'.ownsRow base e size v n xs :=
  h.kept (row := none) ⟨hb.os, hb.tape, hb.output, hb.size, fun k hk _ => hb.block k hk⟩ (by by_cases h : v.ownBlock = none; exact Or.inl h; exact Or.inr h)

theorem ext_grown {w W w' : World} {row : Option Nat} (hx : Ext w W) (hg : W.grownBy w' row) (hr : ∀ k, row = some k → w.heap.size ≤ k) : Ext w w' :=
  ⟨hg.os.trans hx.os, hg.tape.trans hx.tape, hg.output.trans hx.output, Nat.le_trans hx.size hg.size, fun k hk => (hg.block k (Nat.lt_of_lt_of_le hk hx.size) (fun h => by have := hr k h.symm; omega)).trans (hx.block k hk)⟩
end Go.Proofs.Ytdagfocpbnamfaa

namespace Go.Proofs.Ytdagfocpbnamfaa
open Go Go.RowKit
set_option linter.unusedSimpArgs false
set_option linter.unusedVariables false
set_option maxRecDepth 100000

/-- s is what u units are rounded to, without the sign. -/
def NSp (e f u s : Int) : Prop := IsRnd f (grV e f) (u.natAbs : Int) 1 0 false s

noncomputable def nsP (e f u : Int) : Int := Classical.epsilon (fun s => NSp e f u s)

/-- A pattern with the sign of u, and 0 for both zeros. -/
def exV (e f u s : Int) : Int := if s = 0 then 0 else if u < 0 then pw (e + f) + s else s

/-- The near sum whose exact one is u units. -/
noncomputable def nsV (e f u : Int) : Int := exV e f u (nsP e f u)

noncomputable def nsB (e f u : Int) : Bool := decide (nsP e f u ≤ grV e f)
end Go.Proofs.Ytdagfocpbnamfaa

