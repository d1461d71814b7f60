import Derived.Test.YtkickbgiidhpfaaDoorProg
import Derived.WalkKit
import Derived.WalkSpells
import Derived.WalkLawsBesides
import Derived.Lib.QuietBelow
import Derived.BigQuiet
import Derived.Test.YtkickbgiidhpfaaDoorKa
import Derived.Test.YtkickbgiidhpfaaDoorNo
import Derived.Test.YtkickbgiidhpfaaDoorNp
namespace Go.Proofs.YtkickbgiidhpfaaDoor
open Go Go.RowKit Go.Sort
attribute [local go_sem] setCell_drewN alloc_drewN

/-- A call that answers v in every world that keeps what was in w. -/
def GivesB (w : World) (f : FuncId) (args : Array Value) (v : Value) : Prop := ∀ W, Below w.heap.size w W → Calls Tryd.prog f args W fun e w' => e = .returned v ∧ Below W.heap.size W w'
theorem GivesB.keep {w W : World} {f : FuncId} {args : Array Value} {v : Value} (h : GivesB w f args v) (hb : Below w.heap.size w W) : GivesB W f args v := fun V hV => h V (Below.after hb hV)
theorem GivesB.re {w : World} {f : FuncId} {args : Array Value} {v : Value} (h : GivesB w f args v) {d : Nat} {os : Array Obj} : Calls Tryd.prog f args (grow (redrawn w d) os) fun e w'' => e = .returned v ∧ ∃ p : Regrown, w'' = grow (redrawn w p.d) p.os := Calls.regrown_of (h _ (below_regrown w d os))
theorem GivesB.at {w : World} {f : FuncId} {args : Array Value} {v : Value} (h : GivesB w f args v) : Calls Tryd.prog f args w fun e w' => e = .returned v ∧ Below w.heap.size w w' := h w (Below.refl _ _)
theorem eqHm (l : List Int) (hl : l.length = 32) (W : World) : (Op.equalIn 10000 23 (.agg (irow .u8 l)) (.agg (irow .u8 l))).run Tryd.prog W = .ok true W := by
  rw [eqK _ _ hl hl]; simp
end Go.Proofs.YtkickbgiidhpfaaDoor
