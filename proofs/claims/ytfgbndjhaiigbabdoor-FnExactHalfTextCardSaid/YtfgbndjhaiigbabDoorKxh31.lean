/-
  Contracts of the functions that the laws reach, and the plain facts that they rest on, each under the conditions that its line names; part 31.
-/
import Derived.Test.YtfgbndjhaiigbabDoorKxh25
import Derived.Test.YtfgbndjhaiigbabDoorKxh30
import Derived.Lib.LaidTab
import Derived.Stop.LaidErr
import Derived.LaidLaws
namespace Go.Proofs.YtfgbndjhaiigbabDoor
open Go.ChangeShapes Go.WideShapes Go.ChangeAt Go.RowKit

abbrev laidT : List (String × DataW Unit) := [("math/bits.deBruijn32tab", Rows.laid_math_bits_deBruijn32tab), ("math/bits.deBruijn64tab", Rows.laid_math_bits_deBruijn64tab), ("internal/strconv.uint64pow10", Rows.laid_internal_strconv_uint64pow10)]

theorem ypow : (Tryd.prog.globals[4]?).map (·.type) = some 178 := by kernel_rfl

set_option maxRecDepth 100000 in
theorem door_metT (os : Os) (args : Array Value) : laidMetH Tryd.prog laidT ((World.doorLaid Tryd.prog 400 os).forCall (fun _ _ => 0) ⟨#[], args, []⟩).memory :=
  laidMetH_of_parts3 (fuel := 8) (laidMet_of_run' 8 (by kernel_rfl) (by kernel_rfl)) (by kernel_rfl) (by kernel_rfl)

theorem of_laidT {W : World} (h : laidMetH Tryd.prog laidT W) : TXW W := by
  rw [MakeChecks.laidMetH_plain _ _ _ (by kernel_rfl)] at h
  obtain ⟨ps, ⟨ga, ta, ca, fa, pa, qa, hga, hta, hva, hda, ⟨gb, tb, cb, fb, pb, qb, hgb, htb, hvb, hdb, ⟨g, ty, cs, fu, p, q, hg, hty, hv, hd, _, _⟩, _⟩, _⟩, _, _⟩ := h
  obtain rfl := Option.some.inj (gpow.symm.trans hg)
  obtain rfl := Option.some.inj (ypow.symm.trans hty)
  have ht : Lib.TabIs Tryd.prog W "internal/strconv.uint64pow10" .u64 Lib.pow10Tab := by
    unfold Lib.TabIs
    rw [hv, ← Lib.cells_of_tab (k := .u64) (zs := Lib.pow10Tab) Tryd.underlying178 Tryd.underlying154 (by kernel_rfl) (by kernel_rfl) hd]
  refine ⟨?_, ht⟩
  apply Nat.lt_of_not_le
  intro hle
  have := ht.cell gpow 0 (by decide)
  rw [World.cell?] at this
  have hn : W.heap[4]? = none := Array.getElem?_eq_none hle
  rw [hn] at this
  cases this

theorem tw_laidT {W : World} (h : laidMetH Tryd.prog laidT W) : TW W := by
  rw [MakeChecks.laidMetH_plain _ _ _ (by kernel_rfl)] at h
  have ht : Lib.TabIs Tryd.prog W "math/bits.deBruijn64tab" .u8 (Lib.deBruijn64tab.map fun k : Nat => (k : Int)) :=
    Lib.tabIs_of_head (k := .u8) (zs := Lib.deBruijn64tab.map fun k : Nat => (k : Int)) g64 y64 Tryd.underlying171 Tryd.underlying5 (by kernel_rfl) (by kernel_rfl) h.tail
  have cell : ∀ j, j < 64 → W.cell? ⟨2, j, none⟩ = some (.int .u8 (Lib.deBruijn64tab.getD j 0)) := fun j hj => by
    have hl : j < Lib.deBruijn64tab.length := hj
    have := ht.cell g64 j (by simpa using hl)
    rw [this]
    simp [List.getD, List.getElem?_eq_getElem hl]
  refine ⟨?_, cell⟩
  apply Nat.lt_of_not_le
  intro hle
  have := cell 0 (by decide)
  rw [World.cell?] at this
  have hn : W.heap[2]? = none := Array.getElem?_eq_none hle
  rw [hn] at this
  cases this
end Go.Proofs.YtfgbndjhaiigbabDoor

