/-
  The contract of the program's function that tells the value of a pattern in units, under the conditions that its line names.
-/
import Derived.Test.YtkppdcelhblgaaaRows
import Derived.Test.YtkppdcelhblgaaaPlain
import Derived.Test.YtkppdcelhblgaaaDefs
import Derived.Test.YtkppdcelhblgaaaFloat
import Derived.Test.YtkppdcelhblgaaaWalkA
import Derived.Test.YtkppdcelhblgaaaWalkF
import Derived.Test.YtkppdcelhblgaaaWalkC
import Derived.Test.YtkppdcelhblgaaaWalkD
import Derived.Test.YtkppdcelhblgaaaWalkE
import Derived.Test.YtkppdcelhblgaaaWalkS
import Derived.Test.YtkppdcelhblgaaaWalkT
import Derived.Test.YtkppdcelhblgaaaWalkU
import Derived.Test.YtkppdcelhblgaaaWalkV
import Derived.Test.YtkppdcelhblgaaaWalkW
import Derived.Test.YtkppdcelhblgaaaWalkX
import Derived.Test.YtkppdcelhblgaaaWalkH
import Derived.WalkKit
import Derived.WalkSpells
import Derived.WalkLawsBesides
import Derived.StillTactics
import Derived.Laws.Pointers
import Derived.Deep.RegionHeld3
import Derived.Deep.QuietTactic
import Derived.BigQuiet
import Derived.Outline
import Derived.Lib.Hide
import Derived.RowKit3
import Derived.Carry
import Derived.IntWalk
namespace Go.Proofs.Ytkppdcelhblgaaa
open Go Go.RowKit
set_option linter.unusedSimpArgs false
set_option linter.unusedVariables false

theorem floatOf_sub2 (e f s x r : Int) (hg : goodB e f = true) (hx : x = 0) (hr0 : 0 ≤ r) (hr1 : r < 1024) (w : World) : Calls Try.prog 86 #[fmt e f, .agg #[.int .i64 s, .int .i64 x, .int .i64 r]] w fun rv w' => rv = .returned (.float .f32 (floatOfInt .f32 r)) ∧ Ext w w' := by
  subst hx
  exact floatOf_sub e f s r hg hr0 hr1 w

theorem cut_sub (r : Int) (hr0 : 0 ≤ r) (hr1 : r < 1024) (w : World) : (convert 70 3 (.float .f32 (floatOfInt .f32 r))).run Try.prog w = .ok (.int .i64 r) w := by
  obtain ⟨n, rfl⟩ := Int.eq_ofNat_of_zero_le hr0
  exact run_convert_float_int w 70 3 .f32 .i64 _ _ (by kernel_rfl) Try.underlying3 (sub_any n (by omega))

theorem cut_norm (f x r : Int) (h3 : 1 ≤ f) (h4 : f ≤ 10) (hx0 : 1 ≤ x) (hx1 : x < 31) (hr0 : 0 ≤ r) (hr1 : r < pw f) (w : World) : (convert 70 3 (.float .f32 (fbitsN f.toNat x.toNat r.toNat))).run Try.prog w = .ok (.int .i64 ((r + pw f) * pw (x - 1))) w := by
  have h := chk_any f.toNat x.toNat r.toNat (by omega) (by omega) (by omega) (by omega) (by rw [← pw_nat] at hr1; omega)
  have e1 : (((r.toNat + 2 ^ f.toNat) * 2 ^ (x.toNat - 1) : Nat) : Int) = (r + pw f) * pw (x - 1) := by
    rw [Int.natCast_mul, Int.natCast_add, Int.toNat_of_nonneg hr0, pw_nat]
    congr 1
    rw [← pw_nat]
    congr 2
    omega
  rw [e1] at h
  exact run_convert_float_int w 70 3 .f32 .i64 _ _ (by kernel_rfl) Try.underlying3 h

end Go.Proofs.Ytkppdcelhblgaaa
