import Derived.Test.YtnbkdlfkacbfjaaProg
import Derived.WalkKit
import Derived.WalkSpells
import Derived.WalkLawsBesides
import Derived.Lib.QuietBelow
import Derived.Laws.BitsAllLaws
import Derived.BigQuiet
import Derived.WalkMore
import Derived.Test.YtnbkdlfkacbfjaaKit
import Derived.Test.YtnbkdlfkacbfjaaWg
namespace Go.Proofs.Ytnbkdlfkacbfjaa
open Go Go.RowKit Go.Sort
attribute [local go_sem] setCell_drewN alloc_drewN

/-- A call that answers v in every world that keeps what was in w. -/
def GivesB (w : World) (f : FuncId) (args : Array Value) (v : Value) : Prop := ∀ W, Below w.heap.size w W → Calls Try.prog f args W fun e w' => e = .returned v ∧ Below W.heap.size W w'
theorem GivesB.keep {w W : World} {f : FuncId} {args : Array Value} {v : Value} (h : GivesB w f args v) (hb : Below w.heap.size w W) : GivesB W f args v := fun V hV => h V (Below.after hb hV)
theorem GivesB.re {w : World} {f : FuncId} {args : Array Value} {v : Value} (h : GivesB w f args v) {d : Nat} {os : Array Obj} : Calls Try.prog f args (grow (redrawn w d) os) fun e w'' => e = .returned v ∧ ∃ p : Regrown, w'' = grow (redrawn w p.d) p.os := Calls.regrown_of (h _ (below_regrown w d os))
theorem GivesB.at {w : World} {f : FuncId} {args : Array Value} {v : Value} (h : GivesB w f args v) : Calls Try.prog f args w fun e w' => e = .returned v ∧ Below w.heap.size w w' := h w (Below.refl _ _)

/-- An item: its length, and it. -/
def itm (p : List B) : List B := en p.length ++ p
/-- A list's bytes. -/
def jn : List (List B) → List B
  | [] => []
  | p :: l => itm p ++ jn l
theorem jn_app (a b : List (List B)) : jn (a ++ b) = jn a ++ jn b := by
  induction a with
  | nil => rfl
  | cons p l ih => rw [List.cons_append, jn, jn, ih, List.append_assoc]
theorem jn_one (p : List B) : jn [p] = itm p := by rw [jn, jn, List.append_nil]
theorem itm_len (p : List B) : (itm p).length = (en p.length).length + p.length := by rw [itm, List.length_append]
/-- An item of a list. -/
def gp (ps : List (List B)) (i : Nat) : List B := ps.getD i []
theorem take_snoc (ps : List (List B)) (k : Nat) (h : k < ps.length) : ps.take (k + 1) = ps.take k ++ [gp ps k] := by
  rw [List.take_succ_eq_append_getElem h, gp, List.getD_eq_getElem?_getD, List.getElem?_eq_getElem h]; rfl
theorem jn_snoc (ps : List (List B)) (k : Nat) (h : k < ps.length) : jn (ps.take (k + 1)) = jn (ps.take k) ++ itm (gp ps k) := by
  rw [take_snoc ps k h, jn_app, jn_one]
theorem jn_mono (ps : List (List B)) (k : Nat) : (jn (ps.take k)).length ≤ (jn ps).length := by
  conv => rhs; rw [← List.take_append_drop k ps, jn_app, List.length_append]
  omega
/-- Items handed in. -/
def PcB (W : World) (v : Value) (ps : List (List B)) : Prop := ∃ ao cap, v = .slice ao ps.length cap ∧ ps.length ≤ 5864062014634 ∧ (ao = none → cap = 0) ∧ ∀ i, i < ps.length → ∃ b off u, ao = some ⟨b, off, none⟩ ∧ b < W.heap.size ∧ W.cell? ⟨b, off + i, none⟩ = some u ∧ BysB W u (gp ps i) ∧ (gp ps i).length ≤ 140737488351232
theorem PcB.keep {W V : World} {v : Value} {ps : List (List B)} (h : PcB W v ps) (hb : Below W.heap.size W V) : PcB V v ps := by
  obtain ⟨ao, cap, e, hl, hn, hc⟩ := h
  refine ⟨ao, cap, e, hl, hn, fun i hi => ?_⟩
  obtain ⟨b, off, u, e1, h1, h2, h3, h4⟩ := hc i hi
  exact ⟨b, off, u, e1, Nat.lt_of_lt_of_le h1 hb.size, (hb.cell h1).trans h2, h3.keep hb, h4⟩
theorem PcB.form {W : World} {v : Value} {ps : List (List B)} (h : PcB W v ps) : ∃ ao cap, v = .slice ao ps.length cap := by
  obtain ⟨ao, cap, e, _⟩ := h
  exact ⟨ao, cap, e⟩
theorem PcB.at {W : World} {ao : Option Addr} {l cap : Nat} {ps : List (List B)} (h : PcB W (.slice ao l cap) ps) {i : Nat} (hi : i < ps.length) : ∃ b off u uc, ao = some ⟨b, off, none⟩ ∧ b < W.heap.size ∧ W.cell? ⟨b, off + i, none⟩ = some (.slice u (gp ps i).length uc) ∧ BysB W (.slice u (gp ps i).length uc) (gp ps i) ∧ (gp ps i).length ≤ 140737488351232 := by
  obtain ⟨ao', cap', e, _, _, hc⟩ := h
  cases e
  obtain ⟨b, off, u, e1, h1, h2, h3, h4⟩ := hc i hi
  obtain ⟨uo, uc, rfl⟩ := h3.form
  exact ⟨b, off, uo, uc, e1, h1, h2, h3, h4⟩
theorem PcB.len {W : World} {v : Value} {ps : List (List B)} (h : PcB W v ps) : ps.length ≤ 5864062014634 := by
  obtain ⟨_, _, _, hl, _⟩ := h
  exact hl
theorem jn_bd (ps : List (List B)) (h : ∀ i, i < ps.length → (gp ps i).length ≤ 140737488351232) : ∀ k, k ≤ ps.length → (jn (ps.take k)).length ≤ k * 140737488351250
  | 0, _ => by simp [jn]
  | k + 1, hk => by
    have h1 := jn_bd ps h k (by omega)
    have h2 := h k (by omega)
    have h3 := en_ten (n := (gp ps k).length) (by omega)
    rw [jn_snoc ps k (by omega), List.length_append, itm_len]
    omega
/-- What Join answers. -/
def jbad (ps : List (List B)) : Prop := 4096 < ps.length ∨ 4194304 < (jn ps).length
instance (ps : List (List B)) : Decidable (jbad ps) := by unfold jbad; exact inferInstance
def jout (ps : List (List B)) : List B := if jbad ps then [] else jn ps
def jer (ps : List (List B)) : Int := if jbad ps then 2 else 0
theorem own_none (W : World) (b : Nat) : Own W b (.slice none 0 0) [] := ⟨rfl, .inl ⟨rfl, rfl⟩⟩
theorem Gives.toB {f : FuncId} {args : Array Value} {v : Value} (h : Gives f args v) (w : World) : GivesB w f args v := fun W _ => h W
end Go.Proofs.Ytnbkdlfkacbfjaa
