import Derived.ProofKit
import Derived.OpenShut
import Derived.WalkKit
import Derived.WalkSpells
import Derived.WalkLawsBesides
import Derived.Lib.QuietBelow
import Derived.BigQuiet
import Derived.Laws.CopyOwn
import Derived.Tactics
import Derived.Laws.Rows
import Derived.RegionTactic
namespace Go.Proofs.YtjoohgkgkabbpaaGreatDoor
set_option maxRecDepth 100000
open Go Go.ChangeShapes Go.WideShapes Go.ChangeAt Go.RowKit
/-! An array of integers that comes in by value. -/
section
variable {P : Program} {H : Type} {enc : TypeId × Value → H} {w : World}
theorem u8_of_wf {x : Int} (h : (Lit.int .u8 x).wf = true) : 0 ≤ x ∧ x < 256 := by
 have := bounds_u8 h
 omega
end
end Go.Proofs.YtjoohgkgkabbpaaGreatDoor
namespace Go.Proofs.YtjoohgkgkabbpaaGreatDoor
set_option maxRecDepth 100000
open Go.RowKit Go.Sort
/-! Worlds: a whole row stored into a block that the call itself has laid. -/
theorem setCell_drewN (w : World) (n : Nat) (a : Addr) (v : Value) : (w.drewN n).setCell a v = (w.setCell a v).drewN n := rfl
theorem alloc_drewN (w : World) (n : Nat) (o : Obj) : (w.drewN n).alloc o = (w.alloc o).drewN n := rfl
theorem below_drN {B : Nat} {a w : World} (h : Below B a w) (n : Nat) : Below B a (w.drewN n) := ⟨h.os, h.tape, h.output, h.size, h.block⟩
/-! The blocks that a call has laid, by their places. -/
theorem hp1_0 (w : World) (o0 : Obj) : (w.alloc o0).heap[w.heap.size]? = some o0 := by
 show (w.heap.push o0)[w.heap.size]? = _
 rw [Array.getElem?_push, if_pos rfl]
theorem hp2_0 (w : World) (o0 o1 : Obj) : ((w.alloc o0).alloc o1).heap[w.heap.size]? = some o0 := by
 show ((w.heap.push o0).push o1)[w.heap.size]? = _
 rw [Array.getElem?_push, if_neg (by simp only [Array.size_push]; omega)]
 rw [Array.getElem?_push, if_pos rfl]
theorem hp2_1 (w : World) (o0 o1 : Obj) : ((w.alloc o0).alloc o1).heap[w.heap.size + 1]? = some o1 := by
 show ((w.heap.push o0).push o1)[w.heap.size + 1]? = _
 rw [Array.getElem?_push, if_pos (by simp only [Array.size_push])]
theorem hp3_0 (w : World) (o0 o1 o2 : Obj) : (((w.alloc o0).alloc o1).alloc o2).heap[w.heap.size]? = some o0 := by
 show (((w.heap.push o0).push o1).push o2)[w.heap.size]? = _
 rw [Array.getElem?_push, if_neg (by simp only [Array.size_push]; omega)]
 rw [Array.getElem?_push, if_neg (by simp only [Array.size_push]; omega)]
 rw [Array.getElem?_push, if_pos rfl]
theorem hp3_1 (w : World) (o0 o1 o2 : Obj) : (((w.alloc o0).alloc o1).alloc o2).heap[w.heap.size + 1]? = some o1 := by
 show (((w.heap.push o0).push o1).push o2)[w.heap.size + 1]? = _
 rw [Array.getElem?_push, if_neg (by simp only [Array.size_push]; omega)]
 rw [Array.getElem?_push, if_pos (by simp only [Array.size_push])]
theorem hp3_2 (w : World) (o0 o1 o2 : Obj) : (((w.alloc o0).alloc o1).alloc o2).heap[w.heap.size + 1 + 1]? = some o2 := by
 show (((w.heap.push o0).push o1).push o2)[w.heap.size + 1 + 1]? = _
 rw [Array.getElem?_push, if_pos (by simp only [Array.size_push])]
theorem hp4_0 (w : World) (o0 o1 o2 o3 : Obj) : ((((w.alloc o0).alloc o1).alloc o2).alloc o3).heap[w.heap.size]? = some o0 := by
 show ((((w.heap.push o0).push o1).push o2).push o3)[w.heap.size]? = _
 rw [Array.getElem?_push, if_neg (by simp only [Array.size_push]; omega)]
 rw [Array.getElem?_push, if_neg (by simp only [Array.size_push]; omega)]
 rw [Array.getElem?_push, if_neg (by simp only [Array.size_push]; omega)]
 rw [Array.getElem?_push, if_pos rfl]
theorem hp4_1 (w : World) (o0 o1 o2 o3 : Obj) : ((((w.alloc o0).alloc o1).alloc o2).alloc o3).heap[w.heap.size + 1]? = some o1 := by
 show ((((w.heap.push o0).push o1).push o2).push o3)[w.heap.size + 1]? = _
 rw [Array.getElem?_push, if_neg (by simp only [Array.size_push]; omega)]
 rw [Array.getElem?_push, if_neg (by simp only [Array.size_push]; omega)]
 rw [Array.getElem?_push, if_pos (by simp only [Array.size_push])]
theorem hp4_2 (w : World) (o0 o1 o2 o3 : Obj) : ((((w.alloc o0).alloc o1).alloc o2).alloc o3).heap[w.heap.size + 1 + 1]? = some o2 := by
 show ((((w.heap.push o0).push o1).push o2).push o3)[w.heap.size + 1 + 1]? = _
 rw [Array.getElem?_push, if_neg (by simp only [Array.size_push]; omega)]
 rw [Array.getElem?_push, if_pos (by simp only [Array.size_push])]
theorem hp4_3 (w : World) (o0 o1 o2 o3 : Obj) : ((((w.alloc o0).alloc o1).alloc o2).alloc o3).heap[w.heap.size + 1 + 1 + 1]? = some o3 := by
 show ((((w.heap.push o0).push o1).push o2).push o3)[w.heap.size + 1 + 1 + 1]? = _
 rw [Array.getElem?_push, if_pos (by simp only [Array.size_push])]
/-! Results: a row, and a slot. -/
end Go.Proofs.YtjoohgkgkabbpaaGreatDoor
namespace Go.Proofs.YtjoohgkgkabbpaaGreatDoor
set_option maxRecDepth 100000
open Go.RowKit Go.Sort
end Go.Proofs.YtjoohgkgkabbpaaGreatDoor
namespace Go.Proofs.YtjoohgkgkabbpaaGreatDoor
set_option maxRecDepth 100000
open Go Go.RowKit
/-! A region that draws its order, whose operations are quiet but for ONE that waits for all others (a store): one walk of the text's order, then that one operation. -/
def Closed (L : List Oper) (listed : Array Bool) : Prop := ∀ k x, L[k]? = some x → listed.getD k false = true → ∀ e ∈ x.after, Region.binds .any e = true → listed.getD e.on false = true
section
variable {P : Program} {C : World → Prop} {L : List Oper} {m : Nat} {o : Oper}
theorem Closed.set {listed : Array Bool} (hc : Closed L listed) {i : Nat} (hr : i ∈ Region.ready .any L.toArray listed) : Closed L (listed.setIfInBounds i true) := by
 intro k x hx hk e he hb
 obtain ⟨h0, o', ho', hall⟩ := mem_ready.1 hr
 by_cases hki : i = k
 ·subst hki
  have : o' = x := by have := ho'.symm.trans (by simpa using hx : L.toArray[i]? = some x); simpa using this
  subst this
  exact getD_set_true (hall e he hb)
 ·rw [getD_set_ne false hki] at hk
  exact getD_set_true (hc k x hx hk e he hb)
end
end Go.Proofs.YtjoohgkgkabbpaaGreatDoor
namespace Go.Proofs.YtjoohgkgkabbpaaGreatDoor
set_option maxRecDepth 100000
open Go Go.RowKit Go.Sort
end Go.Proofs.YtjoohgkgkabbpaaGreatDoor
namespace Go.Proofs.YtjoohgkgkabbpaaGreatDoor
set_option maxRecDepth 100000
open Go Go.RowKit
/-! A region that draws its order: quiet but for one store, which waits for all others but for one part that is taken out of a tuple. -/
section
variable {P : Program} {C : World → Prop} {L : List Oper} {m x : Nat} {o ox : Oper}
end
end Go.Proofs.YtjoohgkgkabbpaaGreatDoor
namespace Go.Proofs.YtjoohgkgkabbpaaGreatDoor
set_option maxRecDepth 100000
open Go Go.RowKit Go.Sort
end Go.Proofs.YtjoohgkgkabbpaaGreatDoor
namespace Go.Proofs.YtjoohgkgkabbpaaGreatDoor
set_option maxRecDepth 100000
open Go Go.RowKit Go.Sort
end Go.Proofs.YtjoohgkgkabbpaaGreatDoor
namespace Go.Proofs.YtjoohgkgkabbpaaGreatDoor
set_option maxRecDepth 100000
open Go Go.RowKit Go.Sort
end Go.Proofs.YtjoohgkgkabbpaaGreatDoor
namespace Go.Proofs.YtjoohgkgkabbpaaGreatDoor
set_option maxRecDepth 100000
open Go Go.RowKit Go.Sort
theorem wp_call_ex {P : Program} {o : Oper} {a : Act} {w : World} {K : Act → World → Prop} {Q : Exit → Act → World → Prop} {f : FuncId} {args : Array Value} {R : Value → World → Prop} (hx : (execOp a.eval o).run P w = .ok (.enter f args) w)
 (c : Calls P f args w fun e w' => ∃ v, e = .returned v ∧ R v w') (h : ∀ v w', R v w' → K (a.put o.dst v) w') : o.wp P a w K Q := by
 unfold Oper.wp
 rw [hx, Oper.upon_enter]
 exact c.mono fun e w' ⟨v, he, hb⟩ => by subst he; exact h v w' hb
end Go.Proofs.YtjoohgkgkabbpaaGreatDoor
namespace Go.Proofs.YtjoohgkgkabbpaaGreatDoor
set_option maxRecDepth 100000
open Go Go.RowKit Go.Sort
/-! A region that draws its order: quiet operations first (q of them), then new blocks (up to place m), each to come up whenever it likes, then operations one behind the other. -/
def Cl (w : World) : World → Prop := fun W => ∃ p : Regrown, W = grow (redrawn w p.d) p.os
theorem Cl.refl (w : World) : Cl w w := ⟨⟨w.drawn, #[]⟩, by rw [grow_empty]; rfl⟩
theorem Cl.below {w W : World} (h : Cl w W) : Below w.heap.size w W := by obtain ⟨p, rfl⟩ := h; exact below_regrown w p.d p.os
section
variable {P : Program} {L : List Oper} {q m : Nat} {Ts : List Tmp}
end
end Go.Proofs.YtjoohgkgkabbpaaGreatDoor
namespace Go.Proofs.YtjoohgkgkabbpaaGreatDoor
set_option maxRecDepth 100000
open Go Go.RowKit Go.Sort
section
variable {P : Program}
variable {L : List Oper} {q m : Nat} {Ts : List Tmp}
end
end Go.Proofs.YtjoohgkgkabbpaaGreatDoor
namespace Go.Proofs.YtjoohgkgkabbpaaGreatDoor
set_option maxRecDepth 100000
open Go Go.RowKit Go.Sort
section
variable {P : Program} {L : List Oper} {q m : Nat} {Ts : List Tmp}
end
end Go.Proofs.YtjoohgkgkabbpaaGreatDoor

