/-
  Contracts of the functions that the laws reach, and the plain facts that they rest on, each under the conditions that its line names; part 41.
-/
import Derived.Test.YtfgbndjhaiigbaaGreatDoorKdj23
import Derived.ProofKit
import Derived.LaidMore
import Derived.OpenShut
import Derived.Stop.Joined
namespace Go.Proofs.YtfgbndjhaiigbaaGreatDoor
open Go.ChangeShapes Go.WideShapes Go.ChangeAt Go.RowKit

theorem own : ownKnob Tryz.prog.godebug = none := by kernel_rfl

abbrev laidU : List (String × DataW Unit) := [("math/bits.deBruijn32tab", Rows.laid_math_bits_deBruijn32tab), ("math/bits.deBruijn64tab", Rows.laid_math_bits_deBruijn64tab)]

theorem g64 : Tryz.prog.globalNamed "math/bits.deBruijn64tab" = some 2 := by kernel_rfl

theorem y64 : (Tryz.prog.globals[2]?).map (·.type) = some 171 := by kernel_rfl

set_option maxRecDepth 100000 in
/-- The door's own heap meets the premise: three closed facts. -/
theorem door_met (os : Os) (args : Array Value) : laidMetH Tryz.prog laidU ((World.doorLaid Tryz.prog 400 os).forCall (fun _ _ => 0) ⟨#[], args, []⟩).memory :=
  laidMetH_of_parts3 (fuel := 8) (laidMet_of_run' 8 (by kernel_rfl) (by kernel_rfl)) (by kernel_rfl) (by kernel_rfl)

theorem u8_of_trod {H : Type} {enc : TypeId × Value → H} {P : Program} {w : World} {base : Nat} {sp : Nat → Bool} {held : Bool} {fuel : Nat} {t : TypeId} {k : IntKind} {cs : List Value} {y : DataW H × List MemPlace} {n : Int}
    (ht : P.underlying t = some (.int k)) (h : DataW.trod enc P w base sp held fuel t cs = some y) (hy : y.1 = .lit (.int k n)) : cs = [.int k n] := by
  obtain ⟨m, rfl, rfl, _⟩ := DataW.trod_int ht h
  simp at hy
  rw [hy]

theorem of_laid {W : World} (h : laidMetH Tryz.prog laidU W) : TW W := by
  rw [MakeChecks.laidMetH_plain _ _ _ (by kernel_rfl)] at h
  obtain ⟨ps, ⟨ga, ta, ca, fa, pa, qa, hga, hta, hva, hda, ⟨g, ty, cs, fu, p, q, hg, hty, hv, hd, _, _⟩, _⟩, _, _⟩ := h
  obtain rfl := Option.some.inj (g64.symm.trans hg)
  obtain rfl := Option.some.inj (y64.symm.trans hty)
  obtain ⟨xs, m, rfl, hx, hlen, hn, hel⟩ := DataW.trod_array Tryz.underlying171 hd
  have c1 : Tryz.prog.cellsOf 5 = 1 := by kernel_rfl
  have c64 : Tryz.prog.cellsOf 171 = 64 := by kernel_rfl
  have cell : ∀ j, j < 64 → W.cell? ⟨2, j, none⟩ = some (.int .u8 (Lib.deBruijn64tab.getD j 0)) := by
    intro j hj
    have h0 := hel j hj
    rw [c1, Nat.mul_one] at h0
    obtain ⟨y, hy⟩ : ∃ y, xs[j]? = some y := ⟨_, List.getElem?_eq_getElem (by omega)⟩
    rw [hy] at h0
    have e := (Prod.mk.inj hx).1
    have e2 : (Lib.deBruijn64tab.map fun k : Nat => (DataW.lit (.int .u8 k) : DataW _)) = xs.map (·.1) := by
      have := e
      simp only [Rows.laid_math_bits_deBruijn64tab, DataW.agg.injEq] at this
      rw [← this]
      rfl
    have e3 := congrArg (fun l => l[j]?) e2
    simp only [List.getElem?_map, hy, Option.map_some] at e3
    have hlt : j < Lib.deBruijn64tab.length := hj
    rw [List.getElem?_eq_getElem hlt] at e3
    simp only [Option.map_some, Option.some.injEq] at e3
    have q1 := u8_of_trod Tryz.underlying5 h0 e3.symm
    rw [World.var?_cell hg hv j]
    have q2 : (cs.toList.drop j).take 1 = [.int .u8 (Lib.deBruijn64tab[j] : Nat)] := q1
    have q3 : cs.toList[j]? = some (.int .u8 (Lib.deBruijn64tab[j] : Nat)) := by
      have := congrArg (fun l => l[0]?) q2
      simpa [List.getElem?_take, List.getElem?_drop] using this
    rw [← Array.getElem?_toList, q3]
    simp [List.getD, List.getElem?_eq_getElem hlt]
  refine ⟨?_, cell⟩
  apply Nat.lt_of_not_le
  intro hle
  have := cell 0 (by decide)
  rw [World.cell?] at this
  have hn : W.heap[2]? = none := Array.getElem?_eq_none hle
  rw [hn] at this
  cases this
end Go.Proofs.YtfgbndjhaiigbaaGreatDoor

