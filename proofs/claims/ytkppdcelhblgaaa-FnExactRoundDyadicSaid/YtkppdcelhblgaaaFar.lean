/-
  Small facts on worlds: what lies before a new block, or beside a store, is as it was. No Go in sight.
-/
import Derived.Test.YtkppdcelhblgaaaWalkA
namespace Go.Proofs.Ytkppdcelhblgaaa
open Go Go.RowKit

theorem cell_set_far (w : World) (b i k o : Nat) (v : Value) (h : b ≠ k) : (w.setCell ⟨b, i, none⟩ v).cell? ⟨k, o, none⟩ = w.cell? ⟨k, o, none⟩ := World.cell?_setCell_far w _ _ v h

theorem cell_alloc_drew (w : World) (A : Obj) (k o : Nat) (h : k < w.heap.size) : (w.drew.alloc A).cell? ⟨k, o, none⟩ = w.cell? ⟨k, o, none⟩ := cell_alloc_before w.drew A k o h

theorem cell_drew (w : World) (a : Addr) : w.drew.cell? a = w.cell? a := rfl

end Go.Proofs.Ytkppdcelhblgaaa
