/-
  Contracts of the functions that the laws reach, and the plain facts that they rest on, each under the conditions that its line names; part 31.
-/
import Derived.Deep.RegionHeld3
import Derived.BigRegion
namespace Go.Proofs.YtfgbndjhaiigbaaGreatDoor
open Go

section

variable {P : Program} {ops : Array Oper} {Q : Exit → Act → World → Prop} {md : Region.Mode} {S : World → Prop}

/-- May the operations of the list be passed over, one after the other? With the slots that they leave empty. -/
def skipsOK (md : Region.Mode) (ops : Array Oper) : List (Nat × Tmp) → Array Bool → Act → Bool
  | [], _, _ => true
  | (i, d) :: is, listed, a => match ops[i]? with
    | none => false
    | some o => Region.free md ops listed i && ((Region.ready md ops listed).contains i && (!Region.wanted o (yielded ops a.tmps) && (decide (o.dst = some d) && skipsOK md ops is (listed.setIfInBounds i true) (a.put (some d) undef))))

def skipL (is : List (Nat × Tmp)) (listed : Array Bool) : Array Bool := is.foldl (fun l i => l.setIfInBounds i.1 true) listed

def skipA (is : List (Nat × Tmp)) (a : Act) : Act := is.foldl (fun a i => a.put (some i.2) undef) a

/-- An operation that yields is taken first; its slot is told. -/
theorem take_at {i : Nat} {d : Option Tmp} {oi : Oper} {v : Value} {fuel : Nat} {listed : Array Bool} {a : Act} {w : World} (hi : ops[i]? = some oi) (hd : oi.dst = d)
    (hs : Region.noSelect ops = true) (hf : Region.free md ops listed i = true) (hr : (Region.ready md ops listed).contains i = true)
    (hQ : ∀ c a w, Q (.panic c) (a.put d v) w → Q (.panic c) a w) (hy : YieldsIf P ops S oi v a) (hS : S w)
    (h : wpAnyH P md ops Q S fuel (listed.setIfInBounds i true) (a.put d v) w) : wpAnyH P md ops Q S (fuel + 1) listed a w := by
  subst hd
  exact wpAnyH_take hi hs hf hr hQ hy hS h

theorem wpAnyH_skips (hs : Region.noSelect ops = true) (hQ : ∀ d c a w, Q (.panic c) (Act.put a (some d) undef) w → Q (.panic c) a w) {w : World} (hS : S w) :
    ∀ (is : List (Nat × Tmp)) (fuel : Nat) (listed : Array Bool) (a : Act), skipsOK md ops is listed a = true → wpAnyH P md ops Q S fuel (skipL is listed) (skipA is a) w → wpAnyH P md ops Q S (fuel + is.length) listed a w
  | [], _, _, _, _, h => h
  | (i, d) :: is, fuel, listed, a, hok, h => by
    unfold skipsOK at hok
    cases ho : ops[i]? with
    | none => rw [ho] at hok; cases hok
    | some o =>
      rw [ho] at hok
      simp only [Bool.and_eq_true, Bool.not_eq_true', decide_eq_true_eq] at hok
      obtain ⟨h1, h2, h3, h5, h4⟩ := hok
      exact take_at ho h5 hs h1 h2 (hQ _) (Or.inr ⟨h3, rfl⟩) hS (wpAnyH_skips hs hQ hS is fuel _ _ h4 h)

end
end Go.Proofs.YtfgbndjhaiigbaaGreatDoor

