import Derived.Test.YtgfeacnhdlgpoaaDoorKa
import Derived.RegionTactic
namespace Go.Proofs.YtgfeacnhdlgpoaaDoor
set_option maxRecDepth 100000
open Go Go.RowKit Go.Sort
theorem cut_at2 {P : Program} {md : Region.Mode} {ops : Array Oper} {Q : Exit → Act → World → Prop} {fuel : Nat} {listed : Array Bool} {a : Act} {w : World} (f2 : Nat) (l2 : Array Bool) (S : Nat → World → Prop) (a2 : Nat → Value → Act)
    (h1 : (∀ g v W, S g W → wpAny P md ops Q f2 l2 (a2 g v) W) → wpAny P md ops Q fuel listed a w) (h2 : ∀ g v W, S g W → wpAny P md ops Q f2 l2 (a2 g v) W) : wpAny P md ops Q fuel listed a w := h1 h2
/-- An operation that yields a value and a world. -/
theorem wp_world_op {P : Program} {o : Oper} {a : Act} {w : World} {K : Act → World → Prop} {Q : Exit → Act → World → Prop} (v : Value) (w' : World) (hx : (execOp a.eval o).run P w = .ok (.value v) w') (h : K (a.put o.dst v) w') : o.wp P a w K Q := by
  unfold Oper.wp
  rw [hx, Oper.upon_value]
  exact h
end Go.Proofs.YtgfeacnhdlgpoaaDoor
