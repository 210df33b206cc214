/-
  The single of a finite pattern's fields, as the single of its number, under the conditions that its line names.
-/
import Derived.Test.YtkppdcelhblgaaaRows
import Derived.Test.YtkppdcelhblgaaaPlain
import Derived.Test.YtkppdcelhblgaaaBelow
import Derived.Test.YtkppdcelhblgaaaNear
import Derived.Test.YtkppdcelhblgaaaDy
import Derived.Test.YtkppdcelhblgaaaDyC
import Derived.Test.YtkppdcelhblgaaaWalkA
import Derived.Test.YtkppdcelhblgaaaWalkDA
import Derived.Test.YtkppdcelhblgaaaLen
import Derived.Test.YtkppdcelhblgaaaWalkDB
import Derived.Test.YtkppdcelhblgaaaFlt
import Derived.Test.YtkppdcelhblgaaaFltO
import Derived.Test.YtkppdcelhblgaaaFltL
import Derived.Test.YtkppdcelhblgaaaFltB2
import Derived.Test.YtkppdcelhblgaaaFltU
import Derived.Test.YtkppdcelhblgaaaFltF
import Derived.Test.YtkppdcelhblgaaaFltR
import Derived.Test.YtkppdcelhblgaaaFltG
import Derived.Test.YtkppdcelhblgaaaFloat
import Derived.Test.YtkppdcelhblgaaaWalkC
import Derived.Test.YtkppdcelhblgaaaWalkH
import Derived.Test.YtkppdcelhblgaaaWalkI
import Derived.WalkKit
import Derived.LoopTactic
import Derived.Laws.Bits64b
import Derived.WalkSpells
import Derived.WalkLawsBesides
import Derived.StillTactics
import Derived.Laws.Pointers
import Derived.Deep.RegionHeld3
import Derived.Deep.QuietTactic
import Derived.BigQuiet
import Derived.Outline
import Derived.Lib.Hide
import Derived.RowKit3
import Derived.Carry
import Derived.IntWalk
namespace Go.Proofs.Ytkppdcelhblgaaa
open Go Go.RowKit
set_option linter.unusedSimpArgs false
set_option linter.unusedVariables false

theorem floatOf_mg (e f s x r : Int) (hg : goodB e f = true) (hx0 : 0 ≤ x) (hx1 : x < 31) (hr0 : 0 ≤ r) (hr1 : r < pw f) (w : World) : Calls Try.prog 86 #[fmt e f, .agg #[.int .i64 s, .int .i64 x, .int .i64 r]] w fun rv w' => rv = .returned (.float .f32 (fw Ieee.single (mgN f (x * pw f + r)))) ∧ Ext w w' := by
  obtain ⟨h1, h2, h3, h4⟩ := good_iff.1 hg
  have c2 : pw f ≤ 1024 := pw_le 10 1024 rfl h4
  by_cases hx : x = 0
  · subst hx
    rw [Int.zero_mul, Int.zero_add, ← (mgN_low f r hr0 hr1 (by omega)).2]
    exact floatOf_sub e f s r hg hr0 (by omega) w
  · rw [← (mgN_high f x r h3 h4 (by omega) hx1 hr0 hr1).2]
    exact floatOf_norm e f s x r hg (by omega) hx1 hr0 hr1 w

end Go.Proofs.Ytkppdcelhblgaaa
