import Derived.Test.YtkickbgiidhpfaaDoorProg
import Derived.WalkKit
import Derived.WalkSpells
import Derived.WalkLawsBesides
import Derived.Lib.QuietBelow
import Derived.BigQuiet
import Derived.OrdersHeld
import Derived.Laws.MakeOwn
import Derived.RangeFuncBox
import Derived.RangeFuncNested
import Derived.RangeFuncBound
import Derived.RangeFuncCalls
import Derived.RangeFuncLeaves
import Derived.Shelf.Abstract
import Derived.Shelf.RegionOpen
import Derived.OwnWalkIn
import Derived.TacticsInMore
import Derived.LoopNIn
import Derived.LoopIn
import Derived.OwnWalk
import Derived.Deep.RegionHeld3
import Derived.Test.YtkickbgiidhpfaaDoorKa
import Derived.Test.YtkickbgiidhpfaaDoorCqg
namespace Go.Proofs.YtkickbgiidhpfaaDoor
open Go Go.RowKit Go.Sort
attribute [local go_sem] setCell_drewN alloc_drewN

attribute [local go_sem] Oper.semAt_some
theorem row_set {W : World} {g : Nat} {cs : Array Value} {t : TypeId} (hg : W.heap[g]? = some (.cells cs t (0, 0))) (j : Nat) (z : Value) : (W.setCell ⟨g, j, none⟩ z).heap[g]? = some (.cells (cs.setIfInBounds j z) t (0, 0)) :=
  heap_setCell_same W g j _ t _ hg
/-- The first so many messages' keys. -/
def msgs (key : List Int) (m : Nat) : List (List Int) := (List.range m).map (mat key)
theorem msgs_succ (key : List Int) (m : Nat) : msgs key (m + 1) = msgs key m ++ [mat key m] := by simp [msgs, List.range_succ]
theorem msgs_len (key : List Int) (m : Nat) : (msgs key m).length = m := by simp [msgs]
/-- What holds between two rounds of Skip. -/
def SkJ (w : World) (c : Nat) (key : List Int) (n : Int) (m : Nat) (r : Loop) (i : Nat) (A : World) : Prop :=
  A.heap[w.heap.size + 5]? = some (.loop r) ∧ A.heap[w.heap.size + 4]? = some (.deferred (some [])) ∧ A.heap[w.heap.size + 3]? = some (.cells #[.int .i64 (m : Int)] 2 (0, 0)) ∧ A.heap[w.heap.size + 2]? = some (.cells #[(.func (.func 15) #[.pointer (some ⟨c, 0, none⟩)] #[])] 50 (0, 0)) ∧
  (∃ v, A.heap[w.heap.size + 1]? = some (.cells #[v] 30 (0, 0)) ∧ OwnK A w.heap.size v (msgs key i) ∧ (∀ k, v.ownBlock = some k → k = w.heap.size ∨ w.heap.size + 6 ≤ k)) ∧
  A.heap[c]? = some (.cells (chc (kat key i) (n + (i : Int))) 47 (0, 0)) ∧ But c w A
theorem sta_but {c : Nat} {w A : World} (h : Sta w) (hc : 1 < c) (hs : 1 < w.heap.size) (hb : But c w A) : Sta A := h.belowN (n := 2) (by decide) (hb.below (by omega) (by omega))
theorem kon_but {c : Nat} {w A : World} (h : Kon w) (hc : 1 < c) (hs : 1 < w.heap.size) (hb : But c w A) : Kon A := h.belowN (n := 2) (by decide) (hb.below (by omega) (by omega))
theorem but_grown {c : Nat} {w A C : World} {row : Option Nat} (h : But c w A) (hg : A.grownBy C row) (hr : ∀ k, row = some k → w.heap.size ≤ k) : But c w C :=
  ⟨hg.os.trans h.os, hg.tape.trans h.tape, hg.output.trans h.output, Nat.le_trans h.size hg.size, fun k hk hc => (hg.block k (by have := h.size; omega) (fun e => by have := hr k e.symm; omega)).trans (h.block k hk hc)⟩
end Go.Proofs.YtkickbgiidhpfaaDoor
