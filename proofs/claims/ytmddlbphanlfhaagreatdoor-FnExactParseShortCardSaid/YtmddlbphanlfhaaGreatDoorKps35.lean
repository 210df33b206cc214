/-
  Contracts of the functions that the laws reach, and the plain facts that they rest on, each under the conditions that its line names; part 35.
-/
import Derived.Test.YtmddlbphanlfhaaGreatDoorKps31
import Derived.Test.YtmddlbphanlfhaaGreatDoorKps34
import Derived.Lib.LaidTab
import Derived.Stop.LaidErr
import Derived.LaidLaws
import Derived.Shelf.Vars
namespace Go.Proofs.YtmddlbphanlfhaaGreatDoor
open Go.ChangeShapes Go.WideShapes Go.ChangeAt Go.RowKit

abbrev laidP : List (String × DataW Unit) := [("math/bits.deBruijn32tab", Rows.laid_math_bits_deBruijn32tab), ("math/bits.deBruijn64tab", Rows.laid_math_bits_deBruijn64tab), ("internal/strconv.uint64pow10", Rows.laid_internal_strconv_uint64pow10), ("unicode/utf8.acceptRanges", Rows.laid_unicode_utf8_acceptRanges), ("strconv.ErrRange", Rows.laid_strconv_ErrRange), ("strconv.ErrSyntax", Rows.laid_strconv_ErrSyntax), ("unicode/utf8.first", Rows.laid_unicode_utf8_first)]

theorem ypow3 : (Tryz.prog.globals[4]?).map (·.type) = some 185 := by kernel_rfl

/-- The cells of a table of bytes. -/
def litCells : DataW Unit → List Value
  | .agg ds => ds.map fun d => match d with
    | .lit (.int k n) => Value.int k n
    | _ => undef
  | _ => []

/-- A start: the door's, and the one table that the door leaves out. -/
noncomputable def doorP (os : Os) : World :=
  let w0 := World.doorLaid Tryz.prog 400 os
  { w0 with heap := w0.heap.modify 2 fun
    | .cells _ t frozen => .cells (litCells Rows.laid_unicode_utf8_first).toArray t frozen
    | o => o }

set_option maxRecDepth 100000 in
theorem door_metP (os : Os) (args : Array Value) : laidMetH Tryz.prog laidP ((doorP os).forCall (fun _ _ => 0) ⟨#[], args, []⟩).memory :=
  laidMetH_of_parts3 (fuel := 8) (laidMet_of_run' 8 (by kernel_rfl) (by kernel_rfl)) (by kernel_rfl) (by kernel_rfl)

theorem star_errP : "*" ++ "errors.errorString" = "*errors.errorString" := by decide

theorem rowErrP (u : TypeId) (h : Tryz.prog.typeName? 3 u = some "*errors.errorString") : u = 181 :=
  typeName_ptr_named (nm := "errors.errorString") (by rw [star_errP]; kernel_rfl) (by kernel_rfl) (by decide) u (by rw [star_errP]; exact h)

theorem lt_of_cellP {W : World} {g : Nat} {v : Value} (h : W.cell? ⟨g, 0, none⟩ = some v) : g < W.heap.size := by
  apply Nat.lt_of_not_le
  intro hle
  rw [World.cell?] at h
  have hn : W.heap[g]? = none := Array.getElem?_eq_none hle
  simp only [hn] at h
  cases h

theorem of_laidP {W : World} (h : laidMetH Tryz.prog laidP W) : TPE W := by
  rw [MakeChecks.laidMetH_plain _ _ _ (by kernel_rfl)] at h
  have hL := h.tail.tail
  have ht : Lib.TabIs Tryz.prog W "internal/strconv.uint64pow10" .u64 Lib.pow10Tab :=
    Lib.tabIs_of_head (k := .u64) (zs := Lib.pow10Tab) gpow ypow3 Tryz.underlying185 Tryz.underlying154 (by kernel_rfl) (by kernel_rfl) hL
  have hb : Lib.TabIs Tryz.prog W "math/bits.deBruijn64tab" .u8 (Lib.deBruijn64tab.map fun k : Nat => (k : Int)) :=
    Lib.tabIs_of_head (k := .u8) (zs := Lib.deBruijn64tab.map fun k : Nat => (k : Int)) g64 y64 Tryz.underlying205 Tryz.underlying5 (by kernel_rfl) (by kernel_rfl) h.tail
  have cell : ∀ j, j < 64 → W.cell? ⟨7, j, none⟩ = some (.int .u8 (Lib.deBruijn64tab.getD j 0)) := fun j hj => by
    have hl : j < Lib.deBruijn64tab.length := hj
    have := hb.cell g64 j (by simpa using hl)
    rw [this]
    simp [List.getD, List.getElem?_eq_getElem hl]
  obtain ⟨r, _, rv, _, _, _⟩ := Go.laid_sentinel (hL.tail.tail) (g := 1) (ti := 77) (by kernel_rfl) (by kernel_rfl) Tryz.underlying77 rowErrP Tryz.underlying181 Tryz.underlying183 rfl rfl Tryz.underlying9 (by kernel_rfl) (by kernel_rfl)
  have rc : W.cell? ⟨1, 0, none⟩ = some (.iface 181 (.pointer (some r))) := by have := World.var?_cell (show Tryz.prog.globalNamed "strconv.ErrRange" = some 1 by kernel_rfl) rv 0; simpa using this
  obtain ⟨s, _, sv, _, _, _⟩ := Go.laid_sentinel (hL.tail.tail.tail) (g := 0) (ti := 77) (by kernel_rfl) (by kernel_rfl) Tryz.underlying77 rowErrP Tryz.underlying181 Tryz.underlying183 rfl rfl Tryz.underlying9 (by kernel_rfl) (by kernel_rfl)
  have sc : W.cell? ⟨0, 0, none⟩ = some (.iface 181 (.pointer (some s))) := by have := World.var?_cell (show Tryz.prog.globalNamed "strconv.ErrSyntax" = some 0 by kernel_rfl) sv 0; simpa using this
  have hp := ht.cell gpow 0 (by decide)
  exact ⟨⟨lt_of_cellP hp, ht⟩, ⟨lt_of_cellP (cell 0 (by decide)), cell⟩, ⟨_, lt_of_cellP sc, sc, Or.inr ⟨_, _, rfl⟩⟩, _, lt_of_cellP rc, rc, Or.inr ⟨_, _, rfl⟩⟩
end Go.Proofs.YtmddlbphanlfhaaGreatDoor

