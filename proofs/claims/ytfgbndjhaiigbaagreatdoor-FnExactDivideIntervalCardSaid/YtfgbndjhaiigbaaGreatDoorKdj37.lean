/-
  Contracts of the functions that the laws reach, and the plain facts that they rest on, each under the conditions that its line names; part 37.
-/
import Derived.Test.YtfgbndjhaiigbaaGreatDoorKdj1
import Derived.Test.YtfgbndjhaiigbaaGreatDoorKdj2
import Derived.Test.YtfgbndjhaiigbaaGreatDoorKdj3
import Derived.Test.YtfgbndjhaiigbaaGreatDoorKdj4
import Derived.Test.YtfgbndjhaiigbaaGreatDoorKdj5
import Derived.Test.YtfgbndjhaiigbaaGreatDoorRows
import Derived.WalkKit
import Derived.LoopTactic
import Derived.Laws.Bits64b
import Derived.WalkSpells
import Derived.WalkLawsBesides
import Derived.StillTactics
import Derived.Laws.Pointers
import Derived.Deep.RegionHeld3
import Derived.Deep.QuietTactic
import Derived.BigQuiet
import Derived.Outline
import Derived.Lib.Hide
import Derived.RowKit3
import Derived.Carry
import Derived.IntWalk
import Derived.Maps.RangeWalk
import Derived.Maps.OwnSet
import Derived.DeepKeys4
namespace Go.Proofs.YtfgbndjhaiigbaaGreatDoor
open Go Go.RowKit Go.Maps
set_option linter.unusedSimpArgs false
set_option linter.unusedVariables false
set_option maxRecDepth 100000

theorem ivLaid : laidOutB Tryz.prog = true := by kernel_rfl

theorem ivRow : (26 : TypeId) < Tryz.prog.types.size := of_decide_eq_true (by kernel_rfl)

theorem ivCells : Tryz.prog.cellsOf 26 = 2 := by kernel_rfl

theorem ivType : Tryz.prog.keyType 26 = true := by kernel_rfl

theorem ivWide : (match Tryz.prog.underlying 26 with | some (.array _ _) | some (.struct _) => true | _ => false) = true := by rw [Tryz.underlying26]

theorem ivLaw : Keyed Tryz.prog 26 := Keyed.of_law (deep_law_laid ivLaid (m := 2) (by omega) ivRow (by kernel_rfl) ivWide)

/-- The key of an interval. -/
def ivL (l h : Int) : Lit := .string (keyBytes [.int .i64 l, .int .i64 h])

def wf2 (l h : Int) : Prop := (Lit.int .i64 l).wf = true ∧ (Lit.int .i64 h).wf = true

theorem wf_of {a : Int} (h0 : -9223372036854775808 ≤ a) (h1 : a ≤ 9223372036854775807) : (Lit.int .i64 a).wf = true := by
  simp only [Lit.wf, Bool.and_eq_true, decide_eq_true_eq]
  exact ⟨h0, h1⟩

theorem iv_int2 (d : Nat) (hd : 0 < d) (l : Value) : Tryz.prog.keyLits d 3 [l] = (match l with | .int .i64 n => if (Lit.int .i64 n).wf = true then some [.int .i64 n] else none | _ => none) := by
  obtain ⟨m, rfl⟩ : ∃ m, d = m + 1 := ⟨d - 1, by omega⟩
  unfold Program.keyLits
  simp only [Tryz.underlying3]
  cases l <;> try rfl
  rename_i k n
  cases k <;> simp

theorem iv_lits (d : Nat) (hp : 0 < d) (l h : Value) : Tryz.prog.keyLits (d + 1) 26 [l, h] = (match l, h with | .int .i64 n, .int .i64 m => if (Lit.int .i64 n).wf = true then (if (Lit.int .i64 m).wf = true then some [.int .i64 n, .int .i64 m] else none) else none | _, _ => none) := by
  have hi : Tryz.prog.cellsOf 3 = 1 := by kernel_rfl
  unfold Program.keyLits
  simp only [Tryz.underlying26, ivCells]
  simp [hi]
  rw [iv_int2 _ hp, iv_int2 _ hp]
  cases l <;> (try (simp; done))
  rename_i k n
  cases k <;> (try (simp; done))
  by_cases h1 : (Lit.int .i64 n).wf = true
  · simp only [h1, if_true]
    cases h <;> (try (simp; done))
    rename_i k' n'
    cases k' <;> (try (simp; done))
    by_cases h2 : (Lit.int .i64 n').wf = true
    · simp [h1, h2]
    · simp [h1, h2]
  · cases h <;> (try (simp [h1]; done))
    rename_i k' n'
    cases k' <;> simp [h1]

theorem keyOf_iv (v : Value) : keyOf Tryz.prog 26 v = if v.formed Tryz.prog 26 = true then (Tryz.prog.keyLits (Tryz.prog.types.size + 1) 26 v.cells.toList).map fun ls => Lit.string (keyBytes ls) else none := by
  unfold keyOf
  generalize Tryz.prog.types.size = d
  simp only [Tryz.underlying26, ivType, Bool.true_and]

theorem formed_iv (v : Value) : v.formed Tryz.prog 26 = true ↔ ∃ l h, v = .agg #[l, h] := by
  have e : ∀ cs : Array Value, (Value.agg cs).formed Tryz.prog 26 = (cs.size == 2) := fun cs => by
    simp only [Value.formed, Tryz.underlying26, ivCells]
  cases v
  case agg cs =>
    rw [e, beq_iff_eq]
    constructor
    · intro hs
      rcases cs with ⟨xs⟩
      match xs, hs with
      | [l, h], _ => exact ⟨l, h, rfl⟩
    · rintro ⟨l, h, e⟩
      cases e; rfl
  all_goals
    simp only [Value.formed, Tryz.underlying26]
    constructor
    · intro h; cases h
    · rintro ⟨l, h, e⟩; cases e

theorem ivKey {l h : Int} (hw : wf2 l h) : keyOf Tryz.prog 26 (two l h) = some (ivL l h) := by
  have hp : 0 < Tryz.prog.types.size := Nat.lt_of_le_of_lt (Nat.zero_le _) ivRow
  rw [keyOf_iv, if_pos ((formed_iv _).2 ⟨_, _, rfl⟩)]
  show (Tryz.prog.keyLits (Tryz.prog.types.size + 1) 26 [.int .i64 l, .int .i64 h]).map _ = _
  rw [iv_lits _ hp]
  generalize Tryz.prog.types.size = d at *
  simp only [hw.1, hw.2, if_true]
  rfl

theorem ivKey_inv {v : Value} {kl : Lit} (hk : keyOf Tryz.prog 26 v = some kl) : ∃ p : Int × Int, v = two p.1 p.2 ∧ kl = ivL p.1 p.2 ∧ wf2 p.1 p.2 := by
  have hp : 0 < Tryz.prog.types.size := Nat.lt_of_le_of_lt (Nat.zero_le _) ivRow
  rw [keyOf_iv] at hk
  generalize Tryz.prog.types.size = d at *
  by_cases hf : v.formed Tryz.prog 26 = true
  · rw [if_pos hf] at hk
    obtain ⟨l, h, rfl⟩ := (formed_iv v).1 hf
    have hk2 : (Tryz.prog.keyLits (d + 1) 26 [l, h]).map (fun ls => Lit.string (keyBytes ls)) = some kl := hk
    rw [iv_lits _ hp] at hk2
    split at hk2
    · rename_i n m
      by_cases h1 : (Lit.int .i64 n).wf = true
      · by_cases h2 : (Lit.int .i64 m).wf = true
        · rw [if_pos h1, if_pos h2] at hk2
          cases hk2
          exact ⟨(n, m), rfl, rfl, h1, h2⟩
        · rw [if_pos h1, if_neg h2] at hk2; cases hk2
      · rw [if_neg h1] at hk2; cases hk2
    · cases hk2
  · rw [if_neg hf] at hk; cases hk

theorem ivL_inj {a b c d : Int} (h1 : wf2 a b) (h2 : wf2 c d) (h : ivL a b = ivL c d) : a = c ∧ b = d := by
  have e := ivLaw.inj (ivKey h1) (by rw [h]; exact ivKey h2)
  simpa using e

theorem ivL_key {a b : Int} (h : wf2 a b) : WideAt.IsKeyLit (ivL a b) := ivLaw.key (ivKey h)

theorem ivL_same {a b c d : Int} (h1 : wf2 a b) (h2 : wf2 c d) : (ivL a b).sameKey (ivL c d) = (a == c && b == d) := by
  by_cases h : a = c ∧ b = d
  · obtain ⟨rfl, rfl⟩ := h
    rw [WideAt.sameKey_self (ivL_key h1)]; simp
  · rw [Maps.sameKey_ne (fun e => h (ivL_inj h1 h2 e))]
    symm
    simp only [Bool.and_eq_false_iff, beq_eq_false_iff_ne]
    by_cases ha : a = c
    · exact .inr (fun hb => h ⟨ha, hb⟩)
    · exact .inl ha

noncomputable abbrev EVB (v : Value) : Option (DataW Unit × List MemPlace) := plainElem Tryz.prog 4 v

theorem evb (b : Bool) : EVB (.bool b) = some (.lit (.bool b), []) := plainElem_bool Tryz.underlying4 b

/-- Block b is a set of at most n intervals: of those of which E says so. -/
def IvS (w : World) (b n : Nat) (E : Int → Int → Bool) : Prop := ∃ D : DataW Unit, w.ownsMap Tryz.prog 26 EVB b n D ∧ ∀ l h, wf2 l h → Maps.has D (ivL l h) = E l h

/-- A loop over such a set is under way, with its iterator in block r: L says which ones are still to come. -/
def IvR (w : World) (b r n : Nat) (E L : Int → Int → Bool) (cnt : Nat) : Prop := ∃ (D : DataW Unit) (left : Lit → Bool), w.ranges Tryz.prog 26 EVB b r n D left cnt ∧ (∀ l h, wf2 l h → Maps.has D (ivL l h) = E l h) ∧ (∀ l h, wf2 l h → left (ivL l h) = L l h)

variable {w w' : World} {b r n cnt : Nat} {E L : Int → Int → Bool}

theorem IvS.lt (h : IvS w b n E) : b < w.heap.size := by obtain ⟨D, h, _⟩ := h; exact h.lt

theorem IvS.mono (h : IvS w b n E) {m : Nat} (hm : n ≤ m) : IvS w b m E := by obtain ⟨D, h, k⟩ := h; exact ⟨D, h.mono hm, k⟩

theorem IvS.same (h : IvS w b n E) {E' : Int → Int → Bool} (he : ∀ l h, wf2 l h → E l h = E' l h) : IvS w b n E' := by obtain ⟨D, h, k⟩ := h; exact ⟨D, h, fun l h hw => (k l h hw).trans (he l h hw)⟩

theorem IvS.kept (h : IvS w b n E) {row : Option Nat} (hg : w.grownBy w' row) (hne : some b ≠ row) : IvS w' b n E := by obtain ⟨D, h, k⟩ := h; exact ⟨D, h.kept hg hne, k⟩

theorem ivext_grown (h : Ext w w') : w.grownBy w' none := ⟨h.os, h.tape, h.output, h.size, fun k hk _ => h.block k hk⟩

theorem ivgrown_ext (h : w.grownBy w' none) : Ext w w' := ⟨h.os, h.tape, h.output, h.size, fun k hk => h.block k hk (by simp)⟩

theorem IvS.ext (h : IvS w b n E) (hx : Ext w w') : IvS w' b n E := h.kept (ivext_grown hx) (by simp)

theorem IvS.alloc (h : IvS w b n E) (o : Obj) : IvS (w.alloc o) b n E := h.ext (Ext.new _ _)

theorem IvS.drew (h : IvS w b n E) : IvS w.drew b n E := h

theorem iv_new (w : World) : IvS (w.alloc (.map #[] 0)) w.heap.size 0 (fun _ _ => false) := ⟨_, World.ownsMap_made w _ _ _, fun _ _ _ => rfl⟩

theorem IvR.owns (h : IvR w b r n E L cnt) : IvS w b n E := by obtain ⟨D, left, h, k, _⟩ := h; exact ⟨D, h.owns, k⟩

theorem IvR.lt (h : IvR w b r n E L cnt) : r < w.heap.size := by obtain ⟨D, left, h, k, _⟩ := h; exact h.lt

theorem IvR.ne (h : IvR w b r n E L cnt) : r ≠ b := by obtain ⟨D, left, h, k, _⟩ := h; exact h.ne

theorem IvR.left_eq (h : IvR w b r n E L cnt) : w.rangeLeft b r = cnt := by obtain ⟨D, left, h, k, _⟩ := h; exact h.left_eq

theorem IvR.kept (h : IvR w b r n E L cnt) {row : Option Nat} (hg : w.grownBy w' row) (hb : some b ≠ row) (hr : some r ≠ row) : IvR w' b r n E L cnt := by obtain ⟨D, left, h, k⟩ := h; exact ⟨D, left, h.kept hg hb hr, k⟩

theorem IvR.ext (h : IvR w b r n E L cnt) (hx : Ext w w') : IvR w' b r n E L cnt := h.kept (ivext_grown hx) (by simp) (by simp)

theorem IvR.same (h : IvR w b r n E L cnt) {E' L' : Int → Int → Bool} (he : ∀ l h, wf2 l h → E l h = E' l h) (hl : ∀ l h, wf2 l h → L l h = L' l h) : IvR w b r n E' L' cnt := by
  obtain ⟨D, left, h, k, q⟩ := h
  exact ⟨D, left, h, fun l h hw => (k l h hw).trans (he l h hw), fun l h hw => (q l h hw).trans (hl l h hw)⟩

/-- How many there are: none. -/
theorem IvS.none (h : IvS w b n E) (h0 : ∀ l h, wf2 l h → E l h = false) : ∃ D : DataW Unit, w.ownsMap Tryz.prog 26 EVB b n D ∧ Maps.size D = 0 := by
  obtain ⟨D, h, k⟩ := h
  refine ⟨D, h, ?_⟩
  obtain ⟨es, clock, hb, F, hs, rfl⟩ := h
  rw [Maps.size_eq, length_sorted, List.length_map]
  rcases Nat.eq_zero_or_pos es.toList.length with he | he
  · exact he
  · exfalso
    obtain ⟨x, hx⟩ := List.exists_mem_of_length_pos he
    obtain ⟨y, hy⟩ := F.reads x hx
    have hkey := WideElems.rd_key hy
    obtain ⟨p, _, hl, hw⟩ := ivKey_inv hkey
    have h1 := h0 p.1 p.2 hw
    rw [← k p.1 p.2 hw, Maps.has_eq, List.any_eq_false] at h1
    refine h1 _ (mem_sorted.2 (List.mem_map.2 ⟨x, hx, rfl⟩)) ?_
    rw [WideElems.rg_of hy, hl]
    exact WideAt.sameKey_self (ivL_key hw)

/-- .. just one. -/
theorem IvS.one (h : IvS w b n E) (l0 h0 : Int) (hw0 : wf2 l0 h0) (h1 : ∀ l h, wf2 l h → (E l h = true ↔ l = l0 ∧ h = h0)) : ∃ D : DataW Unit, w.ownsMap Tryz.prog 26 EVB b n D ∧ Maps.size D = 1 := by
  obtain ⟨D, h, k⟩ := h
  refine ⟨D, h, ?_⟩
  have hap := h.entries ivLaw
  obtain ⟨es, clock, hb, F, hs, rfl⟩ := h
  have hall : ∀ p ∈ (es.toList.map (WideElems.rg Tryz.prog 26 EVB)).foldr DataW.insert [], p.1 = ivL l0 h0 := by
    intro q hq
    obtain ⟨x, hx, rfl⟩ := List.mem_map.1 (mem_sorted.1 hq)
    obtain ⟨y, hy⟩ := F.reads x hx
    have hkey := WideElems.rd_key hy
    obtain ⟨p, _, hl, hw⟩ := ivKey_inv hkey
    have hE : E p.1 p.2 = true := by
      rw [← k p.1 p.2 hw, Maps.has_eq, List.any_eq_true]
      refine ⟨_, hq, ?_⟩
      rw [WideElems.rg_of hy, hl]
      exact WideAt.sameKey_self (ivL_key hw)
    obtain ⟨e1, e2⟩ := (h1 p.1 p.2 hw).1 hE
    rw [WideElems.rg_of hy, hl, e1, e2]
  have hE0 : E l0 h0 = true := (h1 l0 h0 hw0).2 ⟨rfl, rfl⟩
  rw [← k l0 h0 hw0] at hE0
  obtain ⟨es', he', hpw, _⟩ := hap
  injection he' with he'
  rw [Maps.size_eq]
  rw [Maps.has_eq] at hE0
  rw [he'] at hall hE0 ⊢
  match es', hall, hpw, hE0 with
  | [], _, _, h => simp at h
  | [x], _, _, _ => rfl
  | x :: y :: r, hall, hpw, _ =>
    exfalso
    have := (List.pairwise_cons.1 hpw).1 y (by simp)
    exact this ((hall x (by simp)).trans (hall y (by simp)).symm)

section

variable {ops : Array Oper} {rest : List Oper} {o : Oper} {a : Act} {Q : Exit → Act → World → Prop}

theorem wpList_iv_store (w : World) (hg : o.guard = Option.none) (m x v : Operand) (hop : o.op = Op.mapUpdate 125 m x v) (b n : Nat) (E : Int → Int → Bool) (hm : a.eval m = .map (some b)) (hown : IvS w b n E) (hn : n < 1000)
    (l h : Int) (hw : wf2 l h) (c : Bool) (hx : a.eval x = two l h) (hv : a.eval v = .bool c)
    (hK : ∀ w', IvS w' b (n + 1) (fun p q => (p == l && q == h) || E p q) → w.grownBy w' (some b) → wpList Tryz.prog ops Q rest (a.put o.dst undef) w') : wpList Tryz.prog ops Q (o :: rest) a w := by
  obtain ⟨D, ho, k⟩ := hown
  refine wpList_mapUpdate_own w hg m x v 125 hop 26 4 ivLaw Tryz.underlying125 EVB b n D hm ho (Nat.lt_trans hn (by unfold maxLen; omega)) _ _ (ivL l h) hx hv (ivKey hw) _ _ (evb c) ?_
  intro w' h1 h2
  refine hK w' ⟨_, h1, fun p q hpq => ?_⟩ h2
  by_cases he : p = l ∧ q = h
  · obtain ⟨rfl, rfl⟩ := he
    rw [Maps.has_put_same ho.isMap (ivL_key hpq)]; simp
  · rw [Maps.has_put_other (fun e => he (ivL_inj hpq hw e)), k p q hpq]
    have : (p == l && q == h) = false := by
      rw [← ivL_same hpq hw]; exact Maps.sameKey_ne (fun e => he (ivL_inj hpq hw e))
    show E p q = ((p == l && q == h) || E p q)
    rw [this, Bool.false_or]

theorem wpList_iv_range (w : World) (hg : o.guard = Option.none) (m : Operand) (hop : o.op = Op.range 125 m) (b n : Nat) (E : Int → Int → Bool) (hm : a.eval m = .map (some b)) (hown : IvS w b n E)
    (hK : ∀ w', IvR w' b w.heap.size n E E (w'.rangeLeft b w.heap.size) → Ext w w' → w'.heap.size = w.heap.size + 1 → wpList Tryz.prog ops Q rest (a.put o.dst (.pointer (some ⟨w.heap.size, 0, Option.none⟩))) w') : wpList Tryz.prog ops Q (o :: rest) a w := by
  obtain ⟨D, ho, k⟩ := hown
  refine wpList_range_own w hg m 125 hop 26 4 ivLaw Tryz.underlying125 EVB b n D hm ho ?_
  intro w' h1 h2 h3
  exact hK w' (h1.left_eq ▸ ⟨D, _, h1, k, k⟩) (ivgrown_ext h2) h3

/-- All but one. -/
def skB (L : Int → Int → Bool) (l h : Int) (p q : Int) : Bool := L p q && !(p == l && q == h)

theorem wpList_iv_next (w : World) (hg : o.guard = Option.none) (it : Operand) (hop : o.op = Op.next it false) (b r n : Nat) (E L : Int → Int → Bool) (cnt : Nat) (hit : a.eval it = .pointer (some ⟨r, 0, Option.none⟩)) (h : IvR w b r n E L cnt)
    (hDone : (∀ l h, wf2 l h → L l h = false) → wpList Tryz.prog ops Q rest (a.put o.dst (.tuple #[.bool false])) w)
    (hMore : ∀ (l h : Int) (c : Value) (w' : World) (cnt' : Nat), wf2 l h → L l h = true → E l h = true → IvR w' b r n E (skB L l h) cnt' → cnt' < cnt → w.grownBy w' (some r) → w'.heap.size = w.heap.size →
      (Instr.entry (.pointer (some ⟨r, 0, Option.none⟩))).run Tryz.prog w' = .ok (.tuple #[two l h, c]) w' → wpList Tryz.prog ops Q rest (a.put o.dst (.tuple #[.bool true, two l h, c])) w') : wpList Tryz.prog ops Q (o :: rest) a w := by
  obtain ⟨D, left, hr, k, q⟩ := h
  refine wpList_next_ranges w hg it hop 26 ivLaw EVB (fun p : Int × Int => two p.1 p.2) (fun c : Value => c) (fun key kl hk => by obtain ⟨p, e, _⟩ := ivKey_inv hk; exact ⟨p, e⟩) (fun v y hv => ⟨v, rfl⟩) b r n D left cnt hit hr ?_ ?_
  · intro _ h0
    exact hDone (fun l h hw => by rw [← q l h hw]; exact h0 _)
  · intro x c kl y w' cnt' hk hl hv hat hr2 hlt hg2 hs hen
    obtain ⟨p, e1, rfl, hw⟩ := ivKey_inv hk
    have e2 : x.1 = p.1 ∧ x.2 = p.2 := by simpa using e1
    have hw2 : wf2 x.1 x.2 := by rw [e2.1, e2.2]; exact hw
    have e3 : ivL p.1 p.2 = ivL x.1 x.2 := by rw [e2.1, e2.2]
    rw [e3] at hl hr2 hat
    refine hMore x.1 x.2 c w' cnt' hw2 ((q _ _ hw2).symm.trans hl) ?_ ⟨D, _, hr2, k, fun l h hlh => ?_⟩ hlt hg2 hs hen
    · rw [← k _ _ hw2]; exact Maps.has_true_of_atKey hat
    · show (left (ivL l h) && !(ivL l h).sameKey (ivL x.1 x.2)) = _
      rw [q l h hlh, ivL_same hlh hw2]; rfl

theorem wpList_iv_delete (w : World) (hg : o.guard = Option.none) (m x : Operand) (hop : o.op = Op.call { callee := Callee.builtin Builtin.delete, args := #[m, x], argTypes := #[125, 26] }) (b r n : Nat) (E L : Int → Int → Bool) (cnt : Nat)
    (hm : a.eval m = .map (some b)) (h : IvR w b r n E L cnt) (l h' : Int) (hw : wf2 l h') (hx : a.eval x = two l h')
    (hK : ∀ w' cnt', IvR w' b r n (skB E l h') (skB L l h') cnt' → cnt' ≤ cnt → w.grownBy w' (some b) → w'.heap.size = w.heap.size → wpList Tryz.prog ops Q rest (a.put o.dst (.tuple #[])) w') : wpList Tryz.prog ops Q (o :: rest) a w := by
  obtain ⟨D, left, hr, k, q⟩ := h
  refine wpList_delete_ranges w hg m x 125 26 hop 4 ivLaw Tryz.underlying125 EVB b r n D left cnt hm hr _ _ hx (ivKey hw) ?_
  intro w' cnt' h1 h2 h3
  refine hK w' cnt' ⟨_, _, h1, fun p s hps => ?_, fun p s hps => ?_⟩ h2 h3.grown (by obtain ⟨_, _, _, _, _, rfl⟩ := h3; simp [ChangeMaps.setBlock])
  · by_cases he : p = l ∧ s = h'
    · obtain ⟨rfl, rfl⟩ := he
      rw [Maps.has_del_same]; simp [skB]
    · rw [Maps.has_del_other (fun e => he (ivL_inj hps hw e)), k p s hps]
      have : (p == l && s == h') = false := by
        rw [← ivL_same hps hw]; exact Maps.sameKey_ne (fun e => he (ivL_inj hps hw e))
      show E p s = (E p s && !(p == l && s == h'))
      rw [this]; simp
  · show (left (ivL p s) && !(ivL p s).sameKey (ivL l h')) = _
    rw [q p s hps, ivL_same hps hw]; rfl

theorem wpList_iv_len (w : World) (hg : o.guard = Option.none) (m : Operand) (hop : o.op = Op.call { callee := Callee.builtin Builtin.len, args := #[m], argTypes := #[125] }) (b n : Nat) (D : DataW Unit) (hm : a.eval m = .map (some b)) (hown : w.ownsMap Tryz.prog 26 EVB b n D) (s : Nat) (hs : Maps.size D = s)
    (hK : wpList Tryz.prog ops Q rest (a.put o.dst (.int .i64 (s : Int))) w) : wpList Tryz.prog ops Q (o :: rest) a w := by
  subst hs
  exact wpList_len_own w hg m 125 hop 26 4 Tryz.underlying125 EVB b n D hm hown hK

end
end Go.Proofs.YtfgbndjhaiigbaaGreatDoor

