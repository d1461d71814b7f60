import Derived.Test.YtnbkdlfkacbfjaaKit5
namespace Go.Proofs.Ytnbkdlfkacbfjaa
open Go Go.RowKit Go.Sort
/-- A call within a region, by its contract. -/
theorem wp_call_op {P : Program} {o : Oper} {a : Act} {w : World} {K : Act → World → Prop} {Q : Exit → Act → World → Prop} {f : FuncId} {args : Array Value} {v : Value} (hx : (execOp a.eval o).run P w = .ok (.enter f args) w)
    (c : Calls P f args w fun e w' => e = .returned v ∧ Below w.heap.size w w') (h : ∀ w', Below w.heap.size w w' → K (a.put o.dst v) w') : o.wp P a w K Q := by
  unfold Oper.wp
  rw [hx, Oper.upon_enter]
  exact c.mono fun e w' ⟨he, hb⟩ => by subst he; exact h w' hb
end Go.Proofs.Ytnbkdlfkacbfjaa
