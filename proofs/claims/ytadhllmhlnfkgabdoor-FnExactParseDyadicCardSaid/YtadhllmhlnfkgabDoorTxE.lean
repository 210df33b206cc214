/-
  What the rows' premise gives where a row lists the errors of a number's reading, too; and a start that meets it.
-/
import Derived.Test.YtadhllmhlnfkgabDoorTxL
import Derived.Test.YtadhllmhlnfkgabDoorWalkTX5
import Derived.Stop.LaidErr
import Derived.LaidLaws
import Derived.Shelf.Vars
namespace Go.Proofs.YtadhllmhlnfkgabDoor
open Go.ChangeShapes Go.WideShapes Go.ChangeAt Go.RowKit

abbrev laidE : List (String × DataW Unit) := [("math/bits.deBruijn32tab", Rows.laid_math_bits_deBruijn32tab), ("math/bits.deBruijn64tab", Rows.laid_math_bits_deBruijn64tab), ("internal/strconv.uint64pow10", Rows.laid_internal_strconv_uint64pow10), ("strconv.ErrRange", Rows.laid_strconv_ErrRange), ("strconv.ErrSyntax", Rows.laid_strconv_ErrSyntax)]

set_option maxRecDepth 100000 in
theorem door_metE (os : Os) (args : Array Value) : laidMetH Tryd.prog laidE ((World.doorLaid Tryd.prog 400 os).forCall (fun _ _ => 0) ⟨#[], args, []⟩).memory :=
  laidMetH_of_parts3 (fuel := 8) (laidMet_of_run' 8 (by kernel_rfl) (by kernel_rfl)) (by kernel_rfl) (by kernel_rfl)

theorem star_err : "*" ++ "errors.errorString" = "*errors.errorString" := by decide
theorem rowErr (u : TypeId) (h : Tryd.prog.typeName? 3 u = some "*errors.errorString") : u = 164 :=
  typeName_ptr_named (nm := "errors.errorString") (by rw [star_err]; kernel_rfl) (by kernel_rfl) (by decide) u (by rw [star_err]; exact h)

theorem lt_of_cell {W : World} {g : Nat} {v : Value} (h : W.cell? ⟨g, 0, none⟩ = some v) : g < W.heap.size := by
  apply Nat.lt_of_not_le
  intro hle
  rw [World.cell?] at h
  have hn : W.heap[g]? = none := Array.getElem?_eq_none hle
  simp only [hn] at h
  cases h

theorem of_laidE {W : World} (h : laidMetH Tryd.prog laidE W) (hsh : W.ShapedOpen Tryd.prog) : TXE W := by
  rw [MakeChecks.laidMetH_plain _ _ _ (by kernel_rfl)] at h
  have hL := h.tail.tail
  have ht : Lib.TabIs Tryd.prog W "internal/strconv.uint64pow10" .u64 Lib.pow10Tab :=
    Lib.tabIs_of_head (k := .u64) (zs := Lib.pow10Tab) gpow ypow Tryd.underlying159 Tryd.underlying139 (by kernel_rfl) (by kernel_rfl) hL
  obtain ⟨m, hm⟩ := cell_of_shapedOpen_int (g := 1) (zero := #[.int .i64 0]) (t := 3) hsh (of_decide_eq_true (by kernel_rfl)) (by kernel_rfl) rfl (by kernel_rfl) (by kernel_rfl) Tryd.underlying3
  obtain ⟨r, _, rv, _, _, _⟩ := Go.laid_sentinel (hL.tail) (g := 3) (ti := 67) (by kernel_rfl) (by kernel_rfl) Tryd.underlying67 rowErr Tryd.underlying164 Tryd.underlying166 rfl rfl Tryd.underlying9 (by kernel_rfl) (by kernel_rfl)
  have rc : W.cell? ⟨3, 0, none⟩ = some (.iface 164 (.pointer (some r))) := by have := World.var?_cell (show Tryd.prog.globalNamed "strconv.ErrRange" = some 3 by kernel_rfl) rv 0; simpa using this
  obtain ⟨s, _, sv, _, _, _⟩ := Go.laid_sentinel (hL.tail.tail) (g := 2) (ti := 67) (by kernel_rfl) (by kernel_rfl) Tryd.underlying67 rowErr Tryd.underlying164 Tryd.underlying166 rfl rfl Tryd.underlying9 (by kernel_rfl) (by kernel_rfl)
  have sc : W.cell? ⟨2, 0, none⟩ = some (.iface 164 (.pointer (some s))) := by have := World.var?_cell (show Tryd.prog.globalNamed "strconv.ErrSyntax" = some 2 by kernel_rfl) sv 0; simpa using this
  have hp := ht.cell gpow 0 (by decide)
  exact ⟨⟨lt_of_cell hp, ht⟩, ⟨m, lt_of_cell hm, hm⟩, ⟨_, lt_of_cell sc, sc, Or.inr ⟨_, _, rfl⟩⟩, _, lt_of_cell rc, rc, Or.inr ⟨_, _, rfl⟩⟩

end Go.Proofs.YtadhllmhlnfkgabDoor
