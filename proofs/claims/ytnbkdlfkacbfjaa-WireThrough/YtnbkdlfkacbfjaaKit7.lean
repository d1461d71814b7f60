import Derived.Test.YtnbkdlfkacbfjaaKit6
import Derived.RegionTactic
namespace Go.Proofs.Ytnbkdlfkacbfjaa
open Go Go.RowKit Go.Sort
/-- A call within a region, by a contract that names what it answers only behind it. -/
theorem wp_call_ex {P : Program} {o : Oper} {a : Act} {w : World} {K : Act → World → Prop} {Q : Exit → Act → World → Prop} {f : FuncId} {args : Array Value} {R : Value → World → Prop} (hx : (execOp a.eval o).run P w = .ok (.enter f args) w)
    (c : Calls P f args w fun e w' => ∃ v, e = .returned v ∧ R v w') (h : ∀ v w', R v w' → K (a.put o.dst v) w') : o.wp P a w K Q := by
  unfold Oper.wp
  rw [hx, Oper.upon_enter]
  exact c.mono fun e w' ⟨v, he, hb⟩ => by subst he; exact h v w' hb
/-- An operation that yields a value and leaves the world. -/
theorem wp_pure_op {P : Program} {o : Oper} {a : Act} {w : World} {K : Act → World → Prop} {Q : Exit → Act → World → Prop} (v : Value) (hx : (execOp a.eval o).run P w = .ok (.value v) w) (h : K (a.put o.dst v) w) : o.wp P a w K Q := by
  unfold Oper.wp
  rw [hx, Oper.upon_value]
  exact h
/-- Orders that meet: from there on one walk. -/
theorem cut_at {P : Program} {md : Region.Mode} {ops : Array Oper} {Q : Exit → Act → World → Prop} {fuel : Nat} {listed : Array Bool} {a : Act} {w : World} (f2 : Nat) (l2 : Array Bool) (S : World → Prop) (a2 : Act)
    (h1 : (∀ W, S W → wpAny P md ops Q f2 l2 a2 W) → wpAny P md ops Q fuel listed a w) (h2 : ∀ W, S W → wpAny P md ops Q f2 l2 a2 W) : wpAny P md ops Q fuel listed a w := h1 h2
theorem cut_at1 {P : Program} {md : Region.Mode} {ops : Array Oper} {Q : Exit → Act → World → Prop} {fuel : Nat} {listed : Array Bool} {a : Act} {w : World} (f2 : Nat) (l2 : Array Bool) (S : Value → World → Prop) (a2 : Value → Act)
    (h1 : (∀ v W, S v W → wpAny P md ops Q f2 l2 (a2 v) W) → wpAny P md ops Q fuel listed a w) (h2 : ∀ v W, S v W → wpAny P md ops Q f2 l2 (a2 v) W) : wpAny P md ops Q fuel listed a w := h1 h2
theorem cut_to {P : Program} {md : Region.Mode} {ops : Array Oper} {Q : Exit → Act → World → Prop} {fuel : Nat} {listed l2 : Array Bool} {a : Act} {W : World} (k : wpAny P md ops Q fuel l2 a W) (e : listed = l2) : wpAny P md ops Q fuel listed a W := by rw [e]; exact k
end Go.Proofs.Ytnbkdlfkacbfjaa
