/-
  Contracts of the functions that the laws reach, and the plain facts that they rest on, each under the conditions that its line names; part 30.
-/
import Derived.Test.YtcbkhlaiefiieabDoorKxb1
import Derived.Test.YtcbkhlaiefiieabDoorKxb2
import Derived.Test.YtcbkhlaiefiieabDoorKxb3
import Derived.Test.YtcbkhlaiefiieabDoorKxb4
import Derived.Test.YtcbkhlaiefiieabDoorKxb5
import Derived.Test.YtcbkhlaiefiieabDoorKxb6
import Derived.Test.YtcbkhlaiefiieabDoorKxb7
import Derived.Test.YtcbkhlaiefiieabDoorKxb8
import Derived.Test.YtcbkhlaiefiieabDoorKxb9
import Derived.Test.YtcbkhlaiefiieabDoorKxb11
import Derived.Test.YtcbkhlaiefiieabDoorKxb12
import Derived.Test.YtcbkhlaiefiieabDoorKxb13
import Derived.Test.YtcbkhlaiefiieabDoorKxb14
import Derived.Test.YtcbkhlaiefiieabDoorKxb15
import Derived.Test.YtcbkhlaiefiieabDoorKxb16
import Derived.Test.YtcbkhlaiefiieabDoorKxb17
import Derived.Test.YtcbkhlaiefiieabDoorKxb18
import Derived.Test.YtcbkhlaiefiieabDoorKxb19
import Derived.Test.YtcbkhlaiefiieabDoorKxb20
import Derived.Test.YtcbkhlaiefiieabDoorKxb21
import Derived.Test.YtcbkhlaiefiieabDoorKxb22
import Derived.Test.YtcbkhlaiefiieabDoorKxb23
import Derived.Test.YtcbkhlaiefiieabDoorKxb24
import Derived.Test.YtcbkhlaiefiieabDoorKxb25
import Derived.Test.YtcbkhlaiefiieabDoorKxb26
import Derived.Test.YtcbkhlaiefiieabDoorKxb27
import Derived.Test.YtcbkhlaiefiieabDoorKxb29
import Derived.Test.YtcbkhlaiefiieabDoorRows
import Derived.WalkKit
import Derived.LoopTactic
import Derived.LoopN
import Derived.Laws.Bits64b
import Derived.WalkSpells
import Derived.WalkLawsBesides
import Derived.StillTactics
import Derived.Laws.Pointers
import Derived.Deep.RegionHeld3
import Derived.Deep.QuietTactic
import Derived.BigQuiet
import Derived.Outline
import Derived.Lib.Hide
import Derived.RowKit3
import Derived.Carry
import Derived.IntWalk
namespace Go.Proofs.YtcbkhlaiefiieabDoor
open Go Go.RowKit
set_option linter.unusedSimpArgs false
set_option linter.unusedVariables false
set_option maxRecDepth 100000

/-- Whether one is told to be held by the other. -/
def heB (e f e2 f2 : Int) : Bool := goodB e f && (goodB e2 f2 && hoB e f e2 f2)

/-- Whether a format of a width and an exponent holds both. -/
def caB (e f e2 f2 W E : Int) : Bool := heB e f E (W - 1 - E) && heB e2 f2 E (W - 1 - E)

def nfP (e f e2 f2 W E : Int) : Prop := ∀ W' E' : Int, 0 ≤ W' → 0 ≤ E' → E' ≤ 5 → (W' < W ∨ (W' = W ∧ E' < E)) → caB e f e2 f2 W' E' = false

theorem ca_in {e f e2 f2 W E : Int} (h : caB e f e2 f2 W E = true) : 2 ≤ E ∧ E ≤ 5 ∧ 4 ≤ W ∧ W ≤ 16 := by
  unfold caB heB at h
  rw [Bool.and_eq_true, Bool.and_eq_true, Bool.and_eq_true] at h
  obtain ⟨h1, h2, h3, h4⟩ := good_iff.1 h.1.2.1
  omega

theorem nf_next {e f e2 f2 W E : Int} (h : nfP e f e2 f2 W E) (hc : caB e f e2 f2 W E = false) : nfP e f e2 f2 W (E + 1) := by
  intro W' E' a b c d
  by_cases q : W' = W ∧ E' = E
  · rw [q.1, q.2]; exact hc
  · exact h W' E' a b c (by omega)

theorem nf_row {e f e2 f2 W E : Int} (hE : 6 ≤ E) (h : nfP e f e2 f2 W E) : nfP e f e2 f2 (W + 1) 0 := by
  intro W' E' a b c d
  exact h W' E' a b c (by omega)

theorem nf_two {e f e2 f2 W : Int} (h : nfP e f e2 f2 W 0) : nfP e f e2 f2 W 2 := by
  intro W' E' a b c d
  by_cases q : W' = W ∧ 0 ≤ E' ∧ E' < 2
  · rw [← Bool.not_eq_true]; intro g; have := ca_in g; omega
  · exact h W' E' a b c (by omega)

theorem nf_start {e f e2 f2 W : Int} (hW : W ≤ 4) : nfP e f e2 f2 W 0 := by
  intro W' E' a b c d
  rw [← Bool.not_eq_true]; intro g; have := ca_in g; omega

/-- The format found, or none. -/
def LhD (e f e2 f2 E F : Int) (ok : Bool) : Prop := (ok = true ∧ ∃ W, F = (W - 1 - E) ∧ caB e f e2 f2 W E = true ∧ nfP e f e2 f2 W E) ∨ (ok = false ∧ E = 0 ∧ F = 0 ∧ nfP e f e2 f2 17 0)

theorem lh_one {e f e2 f2 E F E2 F2 : Int} {ok ok2 : Bool} (h : LhD e f e2 f2 E F ok) (h2 : LhD e f e2 f2 E2 F2 ok2) : E = E2 ∧ F = F2 ∧ ok = ok2 := by
  rcases h with ⟨a, W, b, c, d⟩ | ⟨a, b, c, d⟩ <;> rcases h2 with ⟨a2, W2, b2, c2, d2⟩ | ⟨a2, b2, c2, d2⟩
  · have i1 := ca_in c
    have i2 := ca_in c2
    have q : W = W2 ∧ E = E2 := by
      rcases Int.lt_trichotomy W W2 with h | h | h
      · rw [d2 W E (by omega) (by omega) (by omega) (Or.inl h)] at c; cases c
      · rcases Int.lt_trichotomy E E2 with g | g | g
        · rw [d2 W E (by omega) (by omega) (by omega) (Or.inr ⟨h, g⟩)] at c; cases c
        · exact ⟨h, g⟩
        · rw [d W2 E2 (by omega) (by omega) (by omega) (Or.inr ⟨h.symm, g⟩)] at c2; cases c2
      · rw [d W2 E2 (by omega) (by omega) (by omega) (Or.inl h)] at c2; cases c2
    exact ⟨q.2, by omega, by rw [a, a2]⟩
  · have i1 := ca_in c
    rw [d2 W E (by omega) (by omega) (by omega) (Or.inl (by omega))] at c; cases c
  · have i1 := ca_in c2
    rw [d W2 E2 (by omega) (by omega) (by omega) (Or.inl (by omega))] at c2; cases c2
  · exact ⟨by omega, by omega, by rw [a, a2]⟩

def LHout (e f e2 f2 : Int) (w : World) (rv : Ending) (w' : World) : Prop := ∃ (E F : Int) (ok : Bool), rv = .returned (.tuple #[fmt E F, .bool ok]) ∧ LhD e f e2 f2 E F ok ∧ Ext w w'

theorem iHolds_any (e f e2 f2 : Int) (w : World) (hT : TW w) : Calls Tryd.prog 45 #[fmt e f, fmt e2 f2] w fun rv w' => rv = .returned (.tuple #[.bool (heB e f e2 f2), .bool (ggB e f e2 f2)]) ∧ Ext w w' := by
  cases h : ggB e f e2 f2
  · have : heB e f e2 f2 = false := by
      unfold heB
      rcases gg_no h with q | ⟨q, q2⟩
      · rw [q]; rfl
      · rw [q, q2]; rfl
    rw [this]
    exact iHoldsFormat_no e f e2 f2 h w
  · have : heB e f e2 f2 = hoB e f e2 f2 := by
      obtain ⟨q, q2⟩ := gg_iff.1 h
      unfold heB
      rw [q, q2]; rfl
    rw [this]
    exact iHoldsFormat_yes e f e2 f2 h w hT
end Go.Proofs.YtcbkhlaiefiieabDoor

