import Derived.WalkKit
import Derived.WalkSpells
import Derived.WalkLawsBesides
import Derived.Lib.QuietBelow
import Derived.BigQuiet
import Derived.Laws.CopyOwn
import Derived.Tactics
import Derived.Laws.Rows
import Derived.RegionTactic
namespace Go.Proofs.YtlbcdjflcghkeaaDoor
set_option maxRecDepth 100000
open Go.RowKit Go.Sort

/-! Worlds: a whole row stored into a block that the call itself has laid. -/
theorem setRow_alloc_new (w : World) (old cs : Array Value) (t : TypeId) (fr : Nat × Nat) (n : Nat) (hn : n = w.heap.size) :
    (w.alloc (.cells old t fr)).setRow n cs = w.alloc (.cells cs t fr) := by
  subst hn
  show ({ w with heap := (w.heap.push (.cells old t fr)).modify w.heap.size _ } : World) = { w with heap := w.heap.push (.cells cs t fr) }
  congr 1
  apply Array.ext_getElem?
  intro k
  rw [Array.getElem?_modify, Array.getElem?_push, Array.getElem?_push]
  by_cases h : k = w.heap.size
  · subst h; simp
  · rw [if_neg (Ne.symm h), if_neg h]; simp [h]

theorem setRow_alloc_old (w : World) (o : Obj) (n : Nat) (cs : Array Value) (hn : n < w.heap.size) :
    (w.alloc o).setRow n cs = (w.setRow n cs).alloc o := by
  show ({ w with heap := (w.heap.push o).modify n _ } : World) = { w with heap := (w.heap.modify n _).push o }
  congr 1
  apply Array.ext_getElem?
  intro k
  rw [Array.getElem?_modify, Array.getElem?_push, Array.getElem?_push, Array.getElem?_modify, Array.size_modify]
  by_cases h : n = k
  · subst h; rw [if_pos rfl, if_neg (by omega), if_pos rfl, if_neg (by omega)]
  · rw [if_neg h, if_neg h]

theorem setRow_drew (w : World) (n : Nat) (cs : Array Value) : w.drew.setRow n cs = (w.setRow n cs).drew := rfl

theorem setCell_drewN (w : World) (n : Nat) (a : Addr) (v : Value) : (w.drewN n).setCell a v = (w.setCell a v).drewN n := rfl
theorem alloc_drewN (w : World) (n : Nat) (o : Obj) : (w.drewN n).alloc o = (w.alloc o).drewN n := rfl
theorem setRow_drewN (w : World) (n g : Nat) (cs : Array Value) : (w.drewN n).setRow g cs = (w.setRow g cs).drewN n := rfl
theorem below_drN {B : Nat} {a w : World} (h : Below B a w) (n : Nat) : Below B a (w.drewN n) := ⟨h.os, h.tape, h.output, h.size, h.block⟩
theorem ret_bool {a b : Bool} (h : a = b) : Ending.returned (.bool a) = .returned (.bool b) := by rw [h]

/-! The blocks that a call has laid, by their places. -/
theorem hp1_0 (w : World) (o0 : Obj) : (w.alloc o0).heap[w.heap.size]? = some o0 := by
  show (w.heap.push o0)[w.heap.size]? = _
  rw [Array.getElem?_push, if_pos rfl]
theorem hp2_0 (w : World) (o0 o1 : Obj) : ((w.alloc o0).alloc o1).heap[w.heap.size]? = some o0 := by
  show ((w.heap.push o0).push o1)[w.heap.size]? = _
  rw [Array.getElem?_push, if_neg (by simp only [Array.size_push]; omega)]
  rw [Array.getElem?_push, if_pos rfl]
theorem hp2_1 (w : World) (o0 o1 : Obj) : ((w.alloc o0).alloc o1).heap[w.heap.size + 1]? = some o1 := by
  show ((w.heap.push o0).push o1)[w.heap.size + 1]? = _
  rw [Array.getElem?_push, if_pos (by simp only [Array.size_push])]
theorem hp3_0 (w : World) (o0 o1 o2 : Obj) : (((w.alloc o0).alloc o1).alloc o2).heap[w.heap.size]? = some o0 := by
  show (((w.heap.push o0).push o1).push o2)[w.heap.size]? = _
  rw [Array.getElem?_push, if_neg (by simp only [Array.size_push]; omega)]
  rw [Array.getElem?_push, if_neg (by simp only [Array.size_push]; omega)]
  rw [Array.getElem?_push, if_pos rfl]
theorem hp3_1 (w : World) (o0 o1 o2 : Obj) : (((w.alloc o0).alloc o1).alloc o2).heap[w.heap.size + 1]? = some o1 := by
  show (((w.heap.push o0).push o1).push o2)[w.heap.size + 1]? = _
  rw [Array.getElem?_push, if_neg (by simp only [Array.size_push]; omega)]
  rw [Array.getElem?_push, if_pos (by simp only [Array.size_push])]
theorem hp3_2 (w : World) (o0 o1 o2 : Obj) : (((w.alloc o0).alloc o1).alloc o2).heap[w.heap.size + 1 + 1]? = some o2 := by
  show (((w.heap.push o0).push o1).push o2)[w.heap.size + 1 + 1]? = _
  rw [Array.getElem?_push, if_pos (by simp only [Array.size_push])]
theorem hp4_0 (w : World) (o0 o1 o2 o3 : Obj) : ((((w.alloc o0).alloc o1).alloc o2).alloc o3).heap[w.heap.size]? = some o0 := by
  show ((((w.heap.push o0).push o1).push o2).push o3)[w.heap.size]? = _
  rw [Array.getElem?_push, if_neg (by simp only [Array.size_push]; omega)]
  rw [Array.getElem?_push, if_neg (by simp only [Array.size_push]; omega)]
  rw [Array.getElem?_push, if_neg (by simp only [Array.size_push]; omega)]
  rw [Array.getElem?_push, if_pos rfl]
theorem hp4_1 (w : World) (o0 o1 o2 o3 : Obj) : ((((w.alloc o0).alloc o1).alloc o2).alloc o3).heap[w.heap.size + 1]? = some o1 := by
  show ((((w.heap.push o0).push o1).push o2).push o3)[w.heap.size + 1]? = _
  rw [Array.getElem?_push, if_neg (by simp only [Array.size_push]; omega)]
  rw [Array.getElem?_push, if_neg (by simp only [Array.size_push]; omega)]
  rw [Array.getElem?_push, if_pos (by simp only [Array.size_push])]
theorem hp4_2 (w : World) (o0 o1 o2 o3 : Obj) : ((((w.alloc o0).alloc o1).alloc o2).alloc o3).heap[w.heap.size + 1 + 1]? = some o2 := by
  show ((((w.heap.push o0).push o1).push o2).push o3)[w.heap.size + 1 + 1]? = _
  rw [Array.getElem?_push, if_neg (by simp only [Array.size_push]; omega)]
  rw [Array.getElem?_push, if_pos (by simp only [Array.size_push])]
theorem hp4_3 (w : World) (o0 o1 o2 o3 : Obj) : ((((w.alloc o0).alloc o1).alloc o2).alloc o3).heap[w.heap.size + 1 + 1 + 1]? = some o3 := by
  show ((((w.heap.push o0).push o1).push o2).push o3)[w.heap.size + 1 + 1 + 1]? = _
  rw [Array.getElem?_push, if_pos (by simp only [Array.size_push])]
theorem hp5_0 (w : World) (o0 o1 o2 o3 o4 : Obj) : (((((w.alloc o0).alloc o1).alloc o2).alloc o3).alloc o4).heap[w.heap.size]? = some o0 := by
  show (((((w.heap.push o0).push o1).push o2).push o3).push o4)[w.heap.size]? = _
  rw [Array.getElem?_push, if_neg (by simp only [Array.size_push]; omega)]
  rw [Array.getElem?_push, if_neg (by simp only [Array.size_push]; omega)]
  rw [Array.getElem?_push, if_neg (by simp only [Array.size_push]; omega)]
  rw [Array.getElem?_push, if_neg (by simp only [Array.size_push]; omega)]
  rw [Array.getElem?_push, if_pos rfl]
theorem hp5_1 (w : World) (o0 o1 o2 o3 o4 : Obj) : (((((w.alloc o0).alloc o1).alloc o2).alloc o3).alloc o4).heap[w.heap.size + 1]? = some o1 := by
  show (((((w.heap.push o0).push o1).push o2).push o3).push o4)[w.heap.size + 1]? = _
  rw [Array.getElem?_push, if_neg (by simp only [Array.size_push]; omega)]
  rw [Array.getElem?_push, if_neg (by simp only [Array.size_push]; omega)]
  rw [Array.getElem?_push, if_neg (by simp only [Array.size_push]; omega)]
  rw [Array.getElem?_push, if_pos (by simp only [Array.size_push])]
theorem hp5_2 (w : World) (o0 o1 o2 o3 o4 : Obj) : (((((w.alloc o0).alloc o1).alloc o2).alloc o3).alloc o4).heap[w.heap.size + 1 + 1]? = some o2 := by
  show (((((w.heap.push o0).push o1).push o2).push o3).push o4)[w.heap.size + 1 + 1]? = _
  rw [Array.getElem?_push, if_neg (by simp only [Array.size_push]; omega)]
  rw [Array.getElem?_push, if_neg (by simp only [Array.size_push]; omega)]
  rw [Array.getElem?_push, if_pos (by simp only [Array.size_push])]
theorem hp5_3 (w : World) (o0 o1 o2 o3 o4 : Obj) : (((((w.alloc o0).alloc o1).alloc o2).alloc o3).alloc o4).heap[w.heap.size + 1 + 1 + 1]? = some o3 := by
  show (((((w.heap.push o0).push o1).push o2).push o3).push o4)[w.heap.size + 1 + 1 + 1]? = _
  rw [Array.getElem?_push, if_neg (by simp only [Array.size_push]; omega)]
  rw [Array.getElem?_push, if_pos (by simp only [Array.size_push])]
theorem hp5_4 (w : World) (o0 o1 o2 o3 o4 : Obj) : (((((w.alloc o0).alloc o1).alloc o2).alloc o3).alloc o4).heap[w.heap.size + 1 + 1 + 1 + 1]? = some o4 := by
  show (((((w.heap.push o0).push o1).push o2).push o3).push o4)[w.heap.size + 1 + 1 + 1 + 1]? = _
  rw [Array.getElem?_push, if_pos (by simp only [Array.size_push])]
theorem hp6_0 (w : World) (o0 o1 o2 o3 o4 o5 : Obj) : ((((((w.alloc o0).alloc o1).alloc o2).alloc o3).alloc o4).alloc o5).heap[w.heap.size]? = some o0 := by
  show ((((((w.heap.push o0).push o1).push o2).push o3).push o4).push o5)[w.heap.size]? = _
  rw [Array.getElem?_push, if_neg (by simp only [Array.size_push]; omega)]
  rw [Array.getElem?_push, if_neg (by simp only [Array.size_push]; omega)]
  rw [Array.getElem?_push, if_neg (by simp only [Array.size_push]; omega)]
  rw [Array.getElem?_push, if_neg (by simp only [Array.size_push]; omega)]
  rw [Array.getElem?_push, if_neg (by simp only [Array.size_push]; omega)]
  rw [Array.getElem?_push, if_pos rfl]
theorem hp6_1 (w : World) (o0 o1 o2 o3 o4 o5 : Obj) : ((((((w.alloc o0).alloc o1).alloc o2).alloc o3).alloc o4).alloc o5).heap[w.heap.size + 1]? = some o1 := by
  show ((((((w.heap.push o0).push o1).push o2).push o3).push o4).push o5)[w.heap.size + 1]? = _
  rw [Array.getElem?_push, if_neg (by simp only [Array.size_push]; omega)]
  rw [Array.getElem?_push, if_neg (by simp only [Array.size_push]; omega)]
  rw [Array.getElem?_push, if_neg (by simp only [Array.size_push]; omega)]
  rw [Array.getElem?_push, if_neg (by simp only [Array.size_push]; omega)]
  rw [Array.getElem?_push, if_pos (by simp only [Array.size_push])]
theorem hp6_2 (w : World) (o0 o1 o2 o3 o4 o5 : Obj) : ((((((w.alloc o0).alloc o1).alloc o2).alloc o3).alloc o4).alloc o5).heap[w.heap.size + 1 + 1]? = some o2 := by
  show ((((((w.heap.push o0).push o1).push o2).push o3).push o4).push o5)[w.heap.size + 1 + 1]? = _
  rw [Array.getElem?_push, if_neg (by simp only [Array.size_push]; omega)]
  rw [Array.getElem?_push, if_neg (by simp only [Array.size_push]; omega)]
  rw [Array.getElem?_push, if_neg (by simp only [Array.size_push]; omega)]
  rw [Array.getElem?_push, if_pos (by simp only [Array.size_push])]
theorem hp6_3 (w : World) (o0 o1 o2 o3 o4 o5 : Obj) : ((((((w.alloc o0).alloc o1).alloc o2).alloc o3).alloc o4).alloc o5).heap[w.heap.size + 1 + 1 + 1]? = some o3 := by
  show ((((((w.heap.push o0).push o1).push o2).push o3).push o4).push o5)[w.heap.size + 1 + 1 + 1]? = _
  rw [Array.getElem?_push, if_neg (by simp only [Array.size_push]; omega)]
  rw [Array.getElem?_push, if_neg (by simp only [Array.size_push]; omega)]
  rw [Array.getElem?_push, if_pos (by simp only [Array.size_push])]
theorem hp6_4 (w : World) (o0 o1 o2 o3 o4 o5 : Obj) : ((((((w.alloc o0).alloc o1).alloc o2).alloc o3).alloc o4).alloc o5).heap[w.heap.size + 1 + 1 + 1 + 1]? = some o4 := by
  show ((((((w.heap.push o0).push o1).push o2).push o3).push o4).push o5)[w.heap.size + 1 + 1 + 1 + 1]? = _
  rw [Array.getElem?_push, if_neg (by simp only [Array.size_push]; omega)]
  rw [Array.getElem?_push, if_pos (by simp only [Array.size_push])]
theorem hp6_5 (w : World) (o0 o1 o2 o3 o4 o5 : Obj) : ((((((w.alloc o0).alloc o1).alloc o2).alloc o3).alloc o4).alloc o5).heap[w.heap.size + 1 + 1 + 1 + 1 + 1]? = some o5 := by
  show ((((((w.heap.push o0).push o1).push o2).push o3).push o4).push o5)[w.heap.size + 1 + 1 + 1 + 1 + 1]? = _
  rw [Array.getElem?_push, if_pos (by simp only [Array.size_push])]
theorem hp7_0 (w : World) (o0 o1 o2 o3 o4 o5 o6 : Obj) : (((((((w.alloc o0).alloc o1).alloc o2).alloc o3).alloc o4).alloc o5).alloc o6).heap[w.heap.size]? = some o0 := by
  show (((((((w.heap.push o0).push o1).push o2).push o3).push o4).push o5).push o6)[w.heap.size]? = _
  rw [Array.getElem?_push, if_neg (by simp only [Array.size_push]; omega)]
  rw [Array.getElem?_push, if_neg (by simp only [Array.size_push]; omega)]
  rw [Array.getElem?_push, if_neg (by simp only [Array.size_push]; omega)]
  rw [Array.getElem?_push, if_neg (by simp only [Array.size_push]; omega)]
  rw [Array.getElem?_push, if_neg (by simp only [Array.size_push]; omega)]
  rw [Array.getElem?_push, if_neg (by simp only [Array.size_push]; omega)]
  rw [Array.getElem?_push, if_pos rfl]
theorem hp7_1 (w : World) (o0 o1 o2 o3 o4 o5 o6 : Obj) : (((((((w.alloc o0).alloc o1).alloc o2).alloc o3).alloc o4).alloc o5).alloc o6).heap[w.heap.size + 1]? = some o1 := by
  show (((((((w.heap.push o0).push o1).push o2).push o3).push o4).push o5).push o6)[w.heap.size + 1]? = _
  rw [Array.getElem?_push, if_neg (by simp only [Array.size_push]; omega)]
  rw [Array.getElem?_push, if_neg (by simp only [Array.size_push]; omega)]
  rw [Array.getElem?_push, if_neg (by simp only [Array.size_push]; omega)]
  rw [Array.getElem?_push, if_neg (by simp only [Array.size_push]; omega)]
  rw [Array.getElem?_push, if_neg (by simp only [Array.size_push]; omega)]
  rw [Array.getElem?_push, if_pos (by simp only [Array.size_push])]
theorem hp7_2 (w : World) (o0 o1 o2 o3 o4 o5 o6 : Obj) : (((((((w.alloc o0).alloc o1).alloc o2).alloc o3).alloc o4).alloc o5).alloc o6).heap[w.heap.size + 1 + 1]? = some o2 := by
  show (((((((w.heap.push o0).push o1).push o2).push o3).push o4).push o5).push o6)[w.heap.size + 1 + 1]? = _
  rw [Array.getElem?_push, if_neg (by simp only [Array.size_push]; omega)]
  rw [Array.getElem?_push, if_neg (by simp only [Array.size_push]; omega)]
  rw [Array.getElem?_push, if_neg (by simp only [Array.size_push]; omega)]
  rw [Array.getElem?_push, if_neg (by simp only [Array.size_push]; omega)]
  rw [Array.getElem?_push, if_pos (by simp only [Array.size_push])]
theorem hp7_3 (w : World) (o0 o1 o2 o3 o4 o5 o6 : Obj) : (((((((w.alloc o0).alloc o1).alloc o2).alloc o3).alloc o4).alloc o5).alloc o6).heap[w.heap.size + 1 + 1 + 1]? = some o3 := by
  show (((((((w.heap.push o0).push o1).push o2).push o3).push o4).push o5).push o6)[w.heap.size + 1 + 1 + 1]? = _
  rw [Array.getElem?_push, if_neg (by simp only [Array.size_push]; omega)]
  rw [Array.getElem?_push, if_neg (by simp only [Array.size_push]; omega)]
  rw [Array.getElem?_push, if_neg (by simp only [Array.size_push]; omega)]
  rw [Array.getElem?_push, if_pos (by simp only [Array.size_push])]
theorem hp7_4 (w : World) (o0 o1 o2 o3 o4 o5 o6 : Obj) : (((((((w.alloc o0).alloc o1).alloc o2).alloc o3).alloc o4).alloc o5).alloc o6).heap[w.heap.size + 1 + 1 + 1 + 1]? = some o4 := by
  show (((((((w.heap.push o0).push o1).push o2).push o3).push o4).push o5).push o6)[w.heap.size + 1 + 1 + 1 + 1]? = _
  rw [Array.getElem?_push, if_neg (by simp only [Array.size_push]; omega)]
  rw [Array.getElem?_push, if_neg (by simp only [Array.size_push]; omega)]
  rw [Array.getElem?_push, if_pos (by simp only [Array.size_push])]
theorem hp7_5 (w : World) (o0 o1 o2 o3 o4 o5 o6 : Obj) : (((((((w.alloc o0).alloc o1).alloc o2).alloc o3).alloc o4).alloc o5).alloc o6).heap[w.heap.size + 1 + 1 + 1 + 1 + 1]? = some o5 := by
  show (((((((w.heap.push o0).push o1).push o2).push o3).push o4).push o5).push o6)[w.heap.size + 1 + 1 + 1 + 1 + 1]? = _
  rw [Array.getElem?_push, if_neg (by simp only [Array.size_push]; omega)]
  rw [Array.getElem?_push, if_pos (by simp only [Array.size_push])]
theorem hp7_6 (w : World) (o0 o1 o2 o3 o4 o5 o6 : Obj) : (((((((w.alloc o0).alloc o1).alloc o2).alloc o3).alloc o4).alloc o5).alloc o6).heap[w.heap.size + 1 + 1 + 1 + 1 + 1 + 1]? = some o6 := by
  show (((((((w.heap.push o0).push o1).push o2).push o3).push o4).push o5).push o6)[w.heap.size + 1 + 1 + 1 + 1 + 1 + 1]? = _
  rw [Array.getElem?_push, if_pos (by simp only [Array.size_push])]

/-! Results: a row, and a slot. -/
theorem results_row_tmp {P : Program} {fn : Func} {p u : Tmp} {ty : TypeId} (h : fn.results = #[.cell p ty, .tmp u]) (tmps : Array Value) (w : World) (g : Nat) (t : TypeId) (cs : Array Value) (fr : Nat × Nat) (d : TypeDesc) (v : Value)
    (hp : tmps.getD p undef = .pointer (some ⟨g, 0, none⟩)) (hv : tmps.getD u undef = v) (hg : w.heap[g]? = some (.cells cs t fr))
    (hu : P.underlying ty = some d) (hd : (match d with | .struct _ | .array _ _ => true | _ => false) = true) (hi : (P.info? ty).map (·.size) = some cs.size) :
    (results fn tmps).run P w = .ok (.tuple #[.agg cs, v]) w := by
  have hl := run_loadVar_row (P := P) w g t ty cs fr d hg hu hd hi
  rw [results_cell_tmp h, hp, hv]
  simp [asAddr, hl]

end Go.Proofs.YtlbcdjflcghkeaaDoor

namespace Go.Proofs.YtlbcdjflcghkeaaDoor
set_option maxRecDepth 100000
open Go.RowKit Go.Sort

/-- Behind a callee that left what was there, a new block, and a row stored into block n. -/
theorem row_pack {w wr w1 : World} {A E Z : Array Value} {T TN : TypeId} (o : Obj) (hrow : wr.heap[w.heap.size]? = some (.cells A T (0, 0))) (hZ : wr.heap[w.heap.size + 1]? = some (.cells Z TN (0, 0)))
    (hbel : Below w.heap.size w wr) (hsz : w.heap.size + 2 ≤ wr.heap.size) (hb : Below wr.heap.size wr w1) :
    ((w1.alloc o).setRow w.heap.size E).heap[w.heap.size]? = some (.cells E T (0, 0)) ∧ ((w1.alloc o).setRow w.heap.size E).heap[w.heap.size + 1]? = some (.cells Z TN (0, 0)) ∧
    Below w.heap.size w ((w1.alloc o).setRow w.heap.size E) ∧ w.heap.size + 2 ≤ ((w1.alloc o).setRow w.heap.size E).heap.size := by
  have h1 := hb.size
  have a0 : (w1.alloc o).heap[w.heap.size]? = some (.cells A T (0, 0)) := (Go.heap_alloc_old w1 o (by omega)).trans ((hb.block _ (by omega)).trans hrow)
  have a1 : (w1.alloc o).heap[w.heap.size + 1]? = some (.cells Z TN (0, 0)) := (Go.heap_alloc_old w1 o (by omega)).trans ((hb.block _ (by omega)).trans hZ)
  refine ⟨setRow_heap _ _ _ _ _ _ a0, (setRow_other _ _ _ _ (by omega)).trans a1, below_setRow ((hbel.trans (hb.mono (by omega))).alloc (by omega) _) (Nat.le_refl _) _, ?_⟩
  rw [size_setRow]
  have : (w1.alloc o).heap.size = w1.heap.size + 1 := by simp
  omega

/-- Two cells of one row stored. -/
theorem two_cells {w W : World} {E Z : Array Value} {T TN : TypeId} (i j : Nat) (x y : Value) (h : W.heap[w.heap.size]? = some (.cells E T (0, 0))) (hZ : W.heap[w.heap.size + 1]? = some (.cells Z TN (0, 0)))
    (hbel : Below w.heap.size w W) (hsz : w.heap.size + 2 ≤ W.heap.size) :
    ((W.setCell ⟨w.heap.size, i, none⟩ x).setCell ⟨w.heap.size, j, none⟩ y).heap[w.heap.size]? = some (.cells ((E.setIfInBounds i x).setIfInBounds j y) T (0, 0)) ∧
    ((W.setCell ⟨w.heap.size, i, none⟩ x).setCell ⟨w.heap.size, j, none⟩ y).heap[w.heap.size + 1]? = some (.cells Z TN (0, 0)) ∧
    Below w.heap.size w ((W.setCell ⟨w.heap.size, i, none⟩ x).setCell ⟨w.heap.size, j, none⟩ y) ∧ w.heap.size + 2 ≤ ((W.setCell ⟨w.heap.size, i, none⟩ x).setCell ⟨w.heap.size, j, none⟩ y).heap.size := by
  refine ⟨heap_setCell_same _ _ _ _ _ _ (heap_setCell_same _ _ _ _ _ _ h), ?_, (hbel.setCell (Nat.le_refl _) _).setCell (Nat.le_refl _) _, by simpa using hsz⟩
  rw [heap_setCell_other _ _ _ _ (by simp), heap_setCell_other _ _ _ _ (by simp)]
  exact hZ

end Go.Proofs.YtlbcdjflcghkeaaDoor

namespace Go.Proofs.YtlbcdjflcghkeaaDoor
set_option maxRecDepth 100000
open Go Go.RowKit

/-! A region that draws its order, whose operations are quiet but for ONE that waits for all others (a store): one walk of the text's order, then that one operation. -/

def idle (o : Oper) : Oper := { o with op := .move (.const undef) }
def lastB (L : List Oper) (m : Nat) : Bool := decide (m + 1 = L.length) && (List.range m).all fun j => (List.range L.length).any fun k => ((L[k]?).map fun o => o.after.toList.any fun e => Region.binds .any e && e.on == j).getD false
def Closed (L : List Oper) (listed : Array Bool) : Prop := ∀ k x, L[k]? = some x → listed.getD k false = true → ∀ e ∈ x.after, Region.binds .any e = true → listed.getD e.on false = true
def ordB (L : List Oper) : Bool := (List.range L.length).all fun k => ((L[k]?).map fun o => o.after.all fun e => !Region.binds .any e || decide (e.on < k)).getD true

section
variable {P : Program} {C : World → Prop} {L : List Oper} {m : Nat} {o : Oper}

theorem idle_at (h : L[m]? = some o) (i : Nat) : (L.set m (idle o)).toArray[i]? = if m = i then some (idle o) else L.toArray[i]? := by
  have hm : m < L.length := (List.getElem?_eq_some_iff.1 h).1
  simp only [List.getElem?_toArray, List.getElem?_set]
  by_cases e : m = i
  · subst e; simp [hm]
  · simp [e]

theorem idle_after (h : L[m]? = some o) (i : Nat) : ((L.set m (idle o)).toArray[i]?).map (·.after) = (L.toArray[i]?).map (·.after) := by
  rw [idle_at h]
  by_cases e : m = i
  · subst e; simp [h, idle]
  · simp [e]

theorem idle_dst (h : L[m]? = some o) (i : Nat) : ((L.set m (idle o)).toArray[i]?).bind (·.dst) = (L.toArray[i]?).bind (·.dst) := by
  rw [idle_at h]
  by_cases e : m = i
  · subst e; simp [h, idle]
  · simp [e]

theorem yielded_idle (h : L[m]? = some o) (t : Array Value) : yielded (L.set m (idle o)).toArray t = yielded L.toArray t := by
  funext j
  unfold yielded
  rw [idle_dst h]

theorem mem_ready_idle (h : L[m]? = some o) {listed : Array Bool} {i : Nat} : i ∈ Region.ready .any (L.set m (idle o)).toArray listed ↔ i ∈ Region.ready .any L.toArray listed := by
  have ha := idle_after h i
  rw [mem_ready, mem_ready]
  constructor
  · rintro ⟨h0, x, hx, hall⟩
    rw [hx] at ha
    cases hy : L.toArray[i]? with
    | none => rw [hy] at ha; cases ha
    | some y => rw [hy] at ha; simp at ha; exact ⟨h0, y, rfl, fun e he => hall e (by rw [ha]; exact he)⟩
  · rintro ⟨h0, x, hx, hall⟩
    rw [hx] at ha
    cases hy : (L.set m (idle o)).toArray[i]? with
    | none => rw [hy] at ha; cases ha
    | some y => rw [hy] at ha; simp at ha; exact ⟨h0, y, rfl, fun e he => hall e (by rw [← ha]; exact he)⟩

theorem ready_some (hO : ordB L = true) {listed : Array Bool} (hs : listed.size = L.length) : ∀ (k : Nat), k < L.length → listed.getD k true = false → Region.ready .any L.toArray listed ≠ [] := by
  intro k
  induction k using Nat.strongRecOn with
  | ind k ih =>
    intro hk hun
    have hk' : L[k]? = some L[k] := List.getElem?_eq_getElem hk
    have hO' := hO
    simp only [ordB, List.all_eq_true, List.mem_range] at hO'
    have h1 := hO' k hk
    rw [hk'] at h1
    simp only [Option.map_some, Option.getD_some, Array.all_eq_true_iff_forall_mem] at h1
    by_cases hall : ∀ e ∈ L[k].after, Region.binds .any e = true → listed.getD e.on false = true
    · intro he
      have : k ∈ Region.ready .any L.toArray listed := mem_ready.2 ⟨hun, L[k], by simp, hall⟩
      rw [he] at this
      cases this
    · simp only [Classical.not_forall] at hall
      obtain ⟨e, he, hb, hn⟩ := hall
      have h2 := h1 e he
      rw [hb] at h2
      simp at h2
      refine ih e.on h2 (by omega) ?_
      have hlt : e.on < listed.size := by omega
      simp [hlt] at hn ⊢
      exact hn

theorem Closed.set {listed : Array Bool} (hc : Closed L listed) {i : Nat} (hr : i ∈ Region.ready .any L.toArray listed) : Closed L (listed.setIfInBounds i true) := by
  intro k x hx hk e he hb
  obtain ⟨h0, o', ho', hall⟩ := mem_ready.1 hr
  by_cases hki : i = k
  · subst hki
    have : o' = x := by have := ho'.symm.trans (by simpa using hx : L.toArray[i]? = some x); simpa using this
    subst this
    exact getD_set_true (hall e he hb)
  · rw [getD_set_ne false hki] at hk
    exact getD_set_true (hc k x hx hk e he hb)

theorem ready_none (hO : ordB L = true) (hl : lastB L m = true) {listed : Array Bool} (hc : Closed L listed) (hr : m ∈ Region.ready .any L.toArray listed) : Region.ready .any L.toArray (listed.setIfInBounds m true) = [] := by
  obtain ⟨h0, o', ho', hall⟩ := mem_ready.1 hr
  simp only [lastB, Bool.and_eq_true, decide_eq_true_eq, List.all_eq_true, List.mem_range, List.any_eq_true] at hl
  obtain ⟨hml, hl⟩ := hl
  simp only [ordB, List.all_eq_true, List.mem_range] at hO
  have hdown : ∀ d j, j + d + 1 = m → listed.getD j false = true := by
    intro d
    induction d using Nat.strongRecOn with
    | ind d ih =>
      intro j hj
      obtain ⟨k, hk, hx⟩ := hl j (by omega)
      have hk' : L[k]? = some L[k] := List.getElem?_eq_getElem hk
      rw [hk'] at hx
      simp only [Option.map_some, Option.getD_some, List.any_eq_true, Bool.and_eq_true, beq_iff_eq] at hx
      obtain ⟨e, he, hb, hon⟩ := hx
      have he' : e ∈ L[k].after := by simpa using he
      have h1 := hO k hk
      rw [hk'] at h1
      simp only [Option.map_some, Option.getD_some, Array.all_eq_true_iff_forall_mem] at h1
      have h2 := h1 e he'
      rw [hb] at h2
      simp at h2
      by_cases hkm : k = m
      · subst hkm
        have : o' = L[k] := by have := ho'.symm.trans (by simp : L.toArray[k]? = some L[k]); simpa using this
        rw [← hon]
        exact hall e (by rw [this]; exact he') hb
      · have h3 := ih (m - k - 1) (by omega) k (by omega)
        rw [← hon]
        exact hc k L[k] hk' h3 e he' hb
  apply List.eq_nil_iff_forall_not_mem.2
  intro j hj
  obtain ⟨hj0, x, hx, _⟩ := mem_ready.1 hj
  by_cases e : m = j
  · subst e
    have hlt : m < listed.size := by
      rcases Nat.lt_or_ge m listed.size with h' | h'
      · exact h'
      · simp [Array.getElem?_eq_none h'] at h0
    simp [hlt] at hj0
  · rw [getD_set_ne true e] at hj0
    have hjl : j < L.length := by
      have := (Array.getElem?_eq_some_iff.1 hx).1
      simpa using this
    have h3 := hdown (m - j - 1) j (by omega)
    rcases Nat.lt_or_ge j listed.size with h' | h'
    · simp [h'] at hj0 h3; rw [hj0] at h3; cases h3
    · simp [Array.getElem?_eq_none h'] at h3

theorem wpAny_of_tail {Q' : Exit → Act → World → Prop} (h : L[m]? = some o) (hd : o.dst = none) (hg : o.guard = none) (hl : lastB L m = true) (hO : ordB L = true) :
    ∀ (fuel : Nat) (listed : Array Bool) (a : Act) (w : World), C w → listed.size = L.length → Closed L listed → listed.getD m true = false →
      wpAnyQ P .any (L.set m (idle o)).toArray C (fun a' => ∀ w', C w' → wpList P L.toArray Q' [o] a' w') fuel listed a → wpAny P .any L.toArray Q' fuel listed a w := by
  have hml : m < L.length := (List.getElem?_eq_some_iff.1 h).1
  have hnil : ∀ listed : Array Bool, Region.ready .any (L.set m (idle o)).toArray listed = [] ↔ Region.ready .any L.toArray listed = [] := by
    intro listed
    rw [List.eq_nil_iff_forall_not_mem, List.eq_nil_iff_forall_not_mem]
    exact forall_congr' fun i => not_congr (mem_ready_idle h)
  intro fuel
  induction fuel with
  | zero =>
    intro listed a w _ hs _ hun H
    exact absurd ((hnil _).1 H.1) (ready_some hO hs m hml hun)
  | succ fuel ih =>
    intro listed a w hw hs hc hun H
    refine ⟨fun h0 => absurd h0 (ready_some hO hs m hml hun), fun i hi => ?_⟩
    have hq := H.2 i ((mem_ready_idle h).2 hi)
    by_cases e : m = i
    · subst e
      have hn := ready_none hO hl hc hi
      unfold qOp at hq
      rw [idle_at h, if_pos rfl] at hq
      have hwant : Region.wanted (idle o) (yielded (L.set m (idle o)).toArray a.tmps) = true := by simp [Region.wanted, idle, hg]
      simp only [hwant, if_true] at hq
      obtain ⟨v, _, hK⟩ := hq
      have hput : a.put (idle o).dst v = a := by simp [idle, hd, Act.put]
      rw [hput] at hK
      have hQ : ∀ w', C w' → wpList P L.toArray Q' [o] a w' := by
        cases fuel with
        | zero => exact hK.2
        | succ f => exact hK.1 ((hnil _).2 hn)
      have h1 := hQ w hw
      unfold wpOp
      have ho : L.toArray[m]? = some o := by simpa using h
      simp only [ho]
      have hwant' : Region.wanted o (yielded L.toArray a.tmps) = true := by simp [Region.wanted, hg]
      simp only [wpList, hwant', if_true] at h1
      simp only [hwant', if_true]
      refine h1.imp_left fun h2 => Oper.wp_mono (fun a'' w'' h3 => ?_) h2
      cases fuel with
      | zero => exact ⟨hn, h3⟩
      | succ f => exact ⟨fun _ => h3, fun i hi => by rw [hn] at hi; cases hi⟩
    · have hq' : qOp P L.toArray C i (wpAnyQ P .any (L.set m (idle o)).toArray C (fun a' => ∀ w', C w' → wpList P L.toArray Q' [o] a' w') fuel (listed.setIfInBounds i true)) a := by
        unfold qOp at hq ⊢
        rw [idle_at h, if_neg e, yielded_idle h] at hq
        exact hq
      exact wpOp_of_qOp hw (fun a' w' hw' hk => ih _ a' w' hw' (by simpa using hs) (hc.set hi) (by rw [getD_set_ne true (Ne.symm e)]; exact hun) hk) hq'

/-- **ONE WALK OF THE TEXT's ORDER, THEN THE LAST OPERATION.** -/
theorem wp_region_tail {id : Nat} {Q : Exit → Act → World → Prop} {a : Act} {w : World} (m : Nat) (o : Oper) (h : L[m]? = some o) (hd : o.dst = none) (hg : o.guard = none) (hm : P.follows .mixedOrders = true)
    (hl : lastB L m = true) (hO : ordB L = true) (hB : Region.lexB .any (L.set m (idle o)).toArray = true) (hC : C { w with drawn := w.drawn + 1 })
    (hq : wpQuiet P (L.set m (idle o)).toArray C (fun a' => ∀ w', C w' → wpList P L.toArray Q [o] a' w') (L.set m (idle o)) a) : (Code.region id L.toArray true).wp P Q a w := by
  have hml : m < L.length := (List.getElem?_eq_some_iff.1 h).1
  simp only [Region.lexB, Bool.and_eq_true] at hB
  refine wp_region_any hm (wpAny_of_tail h hd hg hl hO _ _ _ _ hC (by simp) (fun k x hx hk => by simp only [Array.getD_eq_getD_getElem?, Array.getElem?_replicate] at hk; split at hk <;> simp at hk) (by simp [hml]) ?_)
  have := wpAnyQ_lex (C := C) (md := .any) hB.1 (L.set m (idle o)) 0 (Array.replicate L.length false) a (by simp) (by simpa using hB.2) hq
  simpa using this

/-- A whole row read, in every world of the class. -/
theorem wpQuiet_load_row {ops : Array Oper} {Q : Act → Prop} {a : Act} {o : Oper} {rest : List Oper} (hgd : o.guard = none) (ty : TypeId) (x : Operand) (ho : o.op = .load ty x)
    (g : Nat) (hx : a.eval x = .pointer (some ⟨g, 0, none⟩)) (t : TypeId) (cs : Array Value) (fr : Nat × Nat) (d : TypeDesc) (hg : ∀ w, C w → w.heap[g]? = some (.cells cs t fr))
    (hu : P.underlying ty = some d) (hd : (match d with | .struct _ | .array _ _ => true | _ => false) = true) (hi : (P.info? ty).map (·.size) = some cs.size)
    (h : wpQuiet P ops C Q rest (a.put o.dst (.agg cs))) : wpQuiet P ops C Q (o :: rest) a := by
  refine BigFrame.wpQuiet_want (by simp [Region.wanted, hgd]) fun K hK => ⟨.agg cs, fun w hw => ?_, hK _ h⟩
  unfold Oper.quietAt execOp
  simp only [ho, hx, Instr.loadAt, Instr.sureAddr, Sem.run_bind, Sem.run_pure, Result.andThen_ok, run_loadVar_row w g t ty cs fr d (hg w hw) hu hd hi]
  exact ⟨rfl, rfl⟩
/-- A call by its contract: the value is one, whatever world of the class it is made in. -/
theorem wpQuiet_idle {ops : Array Oper} {Q : Act → Prop} {a : Act} {o : Oper} (hd : o.dst = none) (hg : o.guard = none) (hop : o.op = .move (.const undef)) (hQ : Q a) : wpQuiet P ops C Q [o] a := by
  refine BigFrame.wpQuiet_want (by simp [Region.wanted, hg]) fun K hK => BigFrame.quiet_move (.const undef) hop (hK _ ?_)
  have hput : a.put o.dst (a.eval (.const undef)) = a := by simp [hd, Act.put]
  rw [hput]
  exact hQ

end
end Go.Proofs.YtlbcdjflcghkeaaDoor

namespace Go.Proofs.YtlbcdjflcghkeaaDoor
set_option maxRecDepth 100000
open Go Go.RowKit Go.Sort
/-- A callee's contract, told from an earlier world. -/
theorem lift_calls {P : Program} {f : FuncId} {args : Array Value} {w0 W : World} {v : Value} (h0 : Below w0.heap.size w0 W)
    (c : Calls P f args W fun e w' => e = .returned v ∧ Below W.heap.size W w') : Calls P f args W fun e w' => e = .returned v ∧ Below w0.heap.size w0 w' :=
  c.mono fun _ _ ⟨h1, h2⟩ => ⟨h1, h0.trans (h2.mono h0.size)⟩
/-- A whole row read under a guard that says yes. -/
theorem wpQuiet_load_want {P : Program} {C : World → Prop} {ops : Array Oper} {Q : Act → Prop} {a : Act} {o : Oper} {rest : List Oper} (hw : Region.wanted o (yielded ops a.tmps) = true) (ty : TypeId) (x : Operand) (ho : o.op = .load ty x)
    (g : Nat) (hx : a.eval x = .pointer (some ⟨g, 0, none⟩)) (t : TypeId) (cs : Array Value) (fr : Nat × Nat) (d : TypeDesc) (hg : ∀ w, C w → w.heap[g]? = some (.cells cs t fr))
    (hu : P.underlying ty = some d) (hd : (match d with | .struct _ | .array _ _ => true | _ => false) = true) (hi : (P.info? ty).map (·.size) = some cs.size)
    (h : wpQuiet P ops C Q rest (a.put o.dst (.agg cs))) : wpQuiet P ops C Q (o :: rest) a := by
  refine BigFrame.wpQuiet_want hw fun K hK => ⟨.agg cs, fun w hw => ?_, hK _ h⟩
  unfold Oper.quietAt execOp
  simp only [ho, hx, Instr.loadAt, Instr.sureAddr, Sem.run_bind, Sem.run_pure, Result.andThen_ok, run_loadVar_row w g t ty cs fr d (hg w hw) hu hd hi]
  exact ⟨rfl, rfl⟩
end Go.Proofs.YtlbcdjflcghkeaaDoor

namespace Go.Proofs.YtlbcdjflcghkeaaDoor
set_option maxRecDepth 100000
open Go Go.RowKit

/-! A region that draws its order: quiet but for one store, which waits for all others but for one part that is taken out of a tuple. -/

def lastB2 (L : List Oper) (m x : Nat) : Bool := decide (m + 1 = L.length) && decide (x < m) && (List.range m).all fun j => j == x || (List.range L.length).any fun k => k != x && ((L[k]?).map fun o => o.after.toList.any fun e => Region.binds .any e && e.on == j).getD false

section
variable {P : Program} {C : World → Prop} {L : List Oper} {m x : Nat} {o ox : Oper}

theorem listed_x (hO : ordB L = true) (hl : lastB2 L m x = true) {listed : Array Bool} (hc : Closed L listed) (hr : m ∈ Region.ready .any L.toArray listed) : ∀ j, j < m → j ≠ x → listed.getD j false = true := by
  obtain ⟨h0, o', ho', hall⟩ := mem_ready.1 hr
  simp only [lastB2, Bool.and_eq_true, Bool.or_eq_true, decide_eq_true_eq, List.all_eq_true, List.mem_range, List.any_eq_true, bne_iff_ne, beq_iff_eq] at hl
  obtain ⟨⟨hml, hxm⟩, hl⟩ := hl
  simp only [ordB, List.all_eq_true, List.mem_range] at hO
  have hdown : ∀ d j, j + d + 1 = m → j ≠ x → listed.getD j false = true := by
    intro d
    induction d using Nat.strongRecOn with
    | ind d ih =>
      intro j hj hjx
      obtain ⟨k, hk, hkx, hx⟩ := (hl j (by omega)).resolve_left hjx
      have hk' : L[k]? = some L[k] := List.getElem?_eq_getElem hk
      rw [hk'] at hx
      simp only [Option.map_some, Option.getD_some, List.any_eq_true, Bool.and_eq_true, beq_iff_eq] at hx
      obtain ⟨e, he, hb, hon⟩ := hx
      have he' : e ∈ L[k].after := by simpa using he
      have h1 := hO k hk
      rw [hk'] at h1
      simp only [Option.map_some, Option.getD_some, Array.all_eq_true_iff_forall_mem] at h1
      have h2 := h1 e he'
      rw [hb] at h2
      simp at h2
      by_cases hkm : k = m
      · subst hkm
        have : o' = L[k] := by have := ho'.symm.trans (by simp : L.toArray[k]? = some L[k]); simpa using this
        rw [← hon]
        exact hall e (by rw [this]; exact he') hb
      · have h3 := ih (m - k - 1) (by omega) k (by omega) hkx
        rw [← hon]
        exact hc k L[k] hk' h3 e he' hb
  intro j hj hx
  exact hdown (m - j - 1) j (by omega) hx
theorem ready_x (hO : ordB L = true) (hl : lastB2 L m x = true) {listed : Array Bool} (hc : Closed L listed) (hr : m ∈ Region.ready .any L.toArray listed) : ∀ j ∈ Region.ready .any L.toArray (listed.setIfInBounds m true), j = x := by
  have hdown := listed_x hO hl hc hr
  obtain ⟨h0, _⟩ := mem_ready.1 hr
  simp only [lastB2, Bool.and_eq_true, decide_eq_true_eq] at hl
  intro j hj
  obtain ⟨hj0, y, hx, _⟩ := mem_ready.1 hj
  by_cases hjx : j = x
  · exact hjx
  exfalso
  by_cases e : m = j
  · subst e
    have hlt : m < listed.size := by
      rcases Nat.lt_or_ge m listed.size with h' | h'
      · exact h'
      · simp [Array.getElem?_eq_none h'] at h0
    simp [hlt] at hj0
  · rw [getD_set_ne true e] at hj0
    have hjl : j < L.length := by
      have := (Array.getElem?_eq_some_iff.1 hx).1
      simpa using this
    have h3 := hdown j (by omega) hjx
    rcases Nat.lt_or_ge j listed.size with h' | h'
    · simp [h'] at hj0 h3; rw [hj0] at h3; cases h3
    · simp [Array.getElem?_eq_none h'] at h3

/-- A part of a tuple is the same in every world. -/
theorem extract_same {t : Operand} {i : Nat} (hx : ox.op = .extract t i) (a : Act) {v : Value} {w w' : World} (h : ox.quietAt P a C w v) : (execOp a.eval ox).run P w' = .ok (.value v) w' := by
  unfold Oper.quietAt at h
  unfold execOp at *
  simp only [hx] at h ⊢
  unfold Instr.extract at *
  cases hE : a.eval t <;> rw [hE] at h <;> try (simp [Oper.quietUpon, go_sem] at h; done)
  rename_i vs
  simp only at *
  cases hv : vs[i]? with
  | none => rw [hv] at h; simp [Oper.quietUpon, go_sem] at h
  | some u => rw [hv] at h; simp [Oper.quietUpon, go_sem] at h; subst h; simp [go_sem]

theorem put_eval {a : Act} {d t : Tmp} {v : Value} (h : t ≠ d) : (a.put (some d) v).eval (.tmp t) = a.eval (.tmp t) := by
  simp only [Act.eval, Act.put]
  simp [Array.getD_eq_getD_getElem?, Ne.symm h]
theorem store_same {ty : TypeId} {s t : Tmp} (ho : o.op = .store ty (.tmp s) (.tmp t)) {d : Tmp} (hs : s ≠ d) (ht : t ≠ d) (a : Act) (v : Value) : execOp (a.put (some d) v).eval o = execOp a.eval o := by
  unfold execOp
  simp only [ho, put_eval hs, put_eval ht]

theorem wpAny_of_tail2 {Q' : Exit → Act → World → Prop} (h : L[m]? = some o) (hX : L[x]? = some ox) {tp : Operand} {i : Nat} (hox : ox.op = .extract tp i) {dx : Tmp} (hdx : ox.dst = some dx) (hgx : ox.guard = none) {ty : TypeId} {s t : Tmp} (hos : o.op = .store ty (.tmp s) (.tmp t)) (hs' : s ≠ dx) (ht : t ≠ dx)
    (hd : o.dst = none) (hg : o.guard = none) (hl : lastB2 L m x = true) (hO : ordB L = true) :
    ∀ (fuel : Nat) (listed : Array Bool) (a : Act) (w : World), C w → listed.size = L.length → Closed L listed → listed.getD m true = false →
      wpAnyQ P .any (L.set m (idle o)).toArray C (fun a' => ∀ w', C w' → ∃ w'', (execOp a'.eval o).run P w' = .ok .skip w'' ∧ Q' .normal a' w'') fuel listed a → wpAny P .any L.toArray Q' fuel listed a w := by
  have hml : m < L.length := (List.getElem?_eq_some_iff.1 h).1
  have hxm : x ≠ m := by
    simp only [lastB2, Bool.and_eq_true, decide_eq_true_eq] at hl
    omega
  have hnil : ∀ listed : Array Bool, Region.ready .any (L.set m (idle o)).toArray listed = [] ↔ Region.ready .any L.toArray listed = [] := by
    intro listed
    rw [List.eq_nil_iff_forall_not_mem, List.eq_nil_iff_forall_not_mem]
    exact forall_congr' fun i => not_congr (mem_ready_idle h)
  intro fuel
  induction fuel with
  | zero =>
    intro listed a w _ hs _ hun H
    exact absurd ((hnil _).1 H.1) (ready_some hO hs m hml hun)
  | succ fuel ih =>
    intro listed a w hw hs hc hun H
    refine ⟨fun h0 => absurd h0 (ready_some hO hs m hml hun), fun i hi => ?_⟩
    have hq := H.2 i ((mem_ready_idle h).2 hi)
    by_cases e : m = i
    · subst e
      have hn := ready_x hO hl hc hi
      unfold qOp at hq
      rw [idle_at h, if_pos rfl] at hq
      have hwant : Region.wanted (idle o) (yielded (L.set m (idle o)).toArray a.tmps) = true := by simp [Region.wanted, idle, hg]
      simp only [hwant, if_true] at hq
      obtain ⟨v, _, hK⟩ := hq
      have hput : a.put (idle o).dst v = a := by simp [idle, hd, Act.put]
      rw [hput] at hK
      have ho : L.toArray[m]? = some o := by simpa using h
      have hwant' : Region.wanted o (yielded L.toArray a.tmps) = true := by simp [Region.wanted, hg]
      unfold wpOp
      simp only [ho, hwant', if_true]
      left
      unfold Oper.wp
      by_cases hr : Region.ready .any L.toArray (listed.setIfInBounds m true) = []
      · have hQ : ∀ w', C w' → ∃ w'', (execOp a.eval o).run P w' = .ok .skip w'' ∧ Q' .normal a w'' := by
          cases fuel with
          | zero => exact hK.2
          | succ f => exact hK.1 ((hnil _).2 hr)
        obtain ⟨w'', h1, h2⟩ := hQ w hw
        rw [h1, Oper.upon_skip, hd]
        cases fuel with
        | zero => exact ⟨hr, h2⟩
        | succ f => exact ⟨fun _ => h2, fun i hi => by rw [hr] at hi; cases hi⟩
      · obtain ⟨j, hj⟩ := List.exists_mem_of_ne_nil _ hr
        obtain rfl := hn j hj
        cases fuel with
        | zero => exact absurd ((hnil _).1 hK.1) hr
        | succ f =>
          have hq := hK.2 j ((mem_ready_idle h).2 hj)
          unfold qOp at hq
          have hoj : L.toArray[j]? = some ox := by simpa using hX
          rw [idle_at h, if_neg (Ne.symm hxm), hoj] at hq
          have hwant2 : ∀ y, Region.wanted ox y = true := by intro y; simp [Region.wanted, hgx]
          simp only [hwant2, if_true] at hq
          obtain ⟨u, hu, hK2⟩ := hq
          have hrun : ∀ w', (execOp a.eval ox).run P w' = .ok (.value u) w' := fun w' => extract_same hox a (hu w hw)
          rw [hdx] at hK2
          have hr2 : Region.ready .any L.toArray ((listed.setIfInBounds m true).setIfInBounds j true) = [] := by
            apply List.eq_nil_iff_forall_not_mem.2
            intro k hk
            obtain ⟨k0, y, hy, _⟩ := mem_ready.1 hk
            have hjk : j ≠ k := by
              intro e
              subst e
              have : j < listed.size := by
                have := (List.getElem?_eq_some_iff.1 hX).1
                omega
              simp [this] at k0
            rw [getD_set_ne true hjk] at k0
            have hkm : m ≠ k := by
              intro e'
              subst e'
              have hlt : m < listed.size := by omega
              simp [hlt] at k0
            rw [getD_set_ne true hkm] at k0
            have hkl : k < L.length := by
              have := (Array.getElem?_eq_some_iff.1 hy).1
              simpa using this
            have h3 := listed_x hO hl hc hi k (by simp only [lastB2, Bool.and_eq_true, decide_eq_true_eq] at hl; omega) (Ne.symm hjk)
            have h' : k < listed.size := by omega
            simp [h'] at k0 h3
            rw [k0] at h3
            cases h3
          have hQ : ∀ w', C w' → ∃ w'', (execOp (a.put (some dx) u).eval o).run P w' = .ok .skip w'' ∧ Q' .normal (a.put (some dx) u) w'' := by
            cases f with
            | zero => exact hK2.2
            | succ f => exact hK2.1 ((hnil _).2 hr2)
          obtain ⟨w'', h1, h2⟩ := hQ w hw
          rw [store_same hos hs' ht] at h1
          rw [h1, Oper.upon_skip, hd]
          refine ⟨fun h0 => absurd h0 hr, fun i hi => ?_⟩
          obtain rfl := hn i hi
          unfold wpOp
          simp only [hoj, hwant2, if_true]
          left
          unfold Oper.wp
          have hp : a.put none undef = a := rfl
          rw [hp, hrun w'', Oper.upon_value, hdx]
          cases f with
          | zero => exact ⟨hr2, h2⟩
          | succ f => exact ⟨fun _ => h2, fun i hi => by rw [hr2] at hi; cases hi⟩
    · have hq' : qOp P L.toArray C i (wpAnyQ P .any (L.set m (idle o)).toArray C (fun a' => ∀ w', C w' → ∃ w'', (execOp a'.eval o).run P w' = .ok .skip w'' ∧ Q' .normal a' w'') fuel (listed.setIfInBounds i true)) a := by
        unfold qOp at hq ⊢
        rw [idle_at h, if_neg e, yielded_idle h] at hq
        exact hq
      exact wpOp_of_qOp hw (fun a' w' hw' hk => ih _ a' w' hw' (by simpa using hs) (hc.set hi) (by rw [getD_set_ne true (Ne.symm e)]; exact hun) hk) hq'

/-- **ONE WALK OF THE TEXT's ORDER, THEN THE STORE.** -/
theorem wp_region_tail2 {id : Nat} {Q : Exit → Act → World → Prop} {a : Act} {w : World} (m x : Nat) (o ox : Oper) (h : L[m]? = some o) (hX : L[x]? = some ox) (tp : Operand) (i : Nat) (hox : ox.op = .extract tp i) (dx : Tmp) (hdx : ox.dst = some dx) (hgx : ox.guard = none) (ty : TypeId) (s t : Tmp) (hos : o.op = .store ty (.tmp s) (.tmp t)) (hs : s ≠ dx) (ht : t ≠ dx)
    (hd : o.dst = none) (hg : o.guard = none) (hm : P.follows .mixedOrders = true) (hl : lastB2 L m x = true) (hO : ordB L = true) (hB : Region.lexB .any (L.set m (idle o)).toArray = true) (hC : C { w with drawn := w.drawn + 1 })
    (hq : wpQuiet P (L.set m (idle o)).toArray C (fun a' => ∀ w', C w' → ∃ w'', (execOp a'.eval o).run P w' = .ok .skip w'' ∧ Q .normal a' w'') (L.set m (idle o)) a) : (Code.region id L.toArray true).wp P Q a w := by
  have hml : m < L.length := (List.getElem?_eq_some_iff.1 h).1
  simp only [Region.lexB, Bool.and_eq_true] at hB
  refine wp_region_any hm (wpAny_of_tail2 h hX hox hdx hgx hos hs ht hd hg hl hO _ _ _ _ hC (by simp) (fun k x hx hk => by simp only [Array.getD_eq_getD_getElem?, Array.getElem?_replicate] at hk; split at hk <;> simp at hk) (by simp [hml]) ?_)
  have := wpAnyQ_lex (C := C) (md := .any) hB.1 (L.set m (idle o)) 0 (Array.replicate L.length false) a (by simp) (by simpa using hB.2) hq
  simpa using this
theorem run_store_op {a : Act} {w : World} (ty : TypeId) (x y : Operand) (ho : o.op = .store ty x y) (g : Nat) (cells : Array Value) (hx : a.eval x = .pointer (some ⟨g, 0, none⟩)) (hy : a.eval y = .agg cells)
    (t : TypeId) (old : Array Value) (hg : w.heap[g]? = some (.cells old t (0, 0))) (hi : (P.info? ty).map (·.size) = some cells.size) (hold : old.size = cells.size) (h1 : cells.all (·.oneCell') = true) : (execOp a.eval o).run P w = .ok .skip (w.setRow g cells) := by
  unfold execOp
  simp only [ho, hx, hy, Instr.storeAt, Instr.sureAddr, Sem.run_bind, Sem.run_pure, Result.andThen_ok, run_storeVar_row w g t ty old cells hg hi hold h1]
end
end Go.Proofs.YtlbcdjflcghkeaaDoor

namespace Go.Proofs.YtlbcdjflcghkeaaDoor
set_option maxRecDepth 100000
open Go Go.RowKit Go.Sort
/-- Two results, each in a block of its own. -/
theorem results_rows2 {P : Program} {fn : Func} {p q : Tmp} {ty tz : TypeId} (h : fn.results = #[.cell p ty, .cell q tz]) (tmps : Array Value) (w : World) (g g' : Nat) (t t' : TypeId) (cs cs' : Array Value) (fr fr' : Nat × Nat) (d d' : TypeDesc)
    (hp : tmps.getD p undef = .pointer (some ⟨g, 0, none⟩)) (hg : w.heap[g]? = some (.cells cs t fr))
    (hq : tmps.getD q undef = .pointer (some ⟨g', 0, none⟩)) (hg' : w.heap[g']? = some (.cells cs' t' fr'))
    (hu : P.underlying ty = some d) (hd : (match d with | .struct _ | .array _ _ => true | _ => false) = true) (hi : (P.info? ty).map (·.size) = some cs.size)
    (hu' : P.underlying tz = some d') (hd' : (match d' with | .struct _ | .array _ _ => true | _ => false) = true) (hi' : (P.info? tz).map (·.size) = some cs'.size) :
    (results fn tmps).run P w = .ok (.tuple #[.agg cs, .agg cs']) w := by
  have hp' : tmps[p]?.getD undef = .pointer (some ⟨g, 0, none⟩) := by simpa using hp
  have hq' : tmps[q]?.getD undef = .pointer (some ⟨g', 0, none⟩) := by simpa using hq
  simp [results, h, hp', hq', asAddr, run_loadVar_row w g t ty cs fr d hg hu hd hi, run_loadVar_row w g' t' tz cs' fr' d' hg' hu' hd' hi']
end Go.Proofs.YtlbcdjflcghkeaaDoor

namespace Go.Proofs.YtlbcdjflcghkeaaDoor
set_option maxRecDepth 100000
open Go Go.RowKit Go.Sort
/-- A region that reads two rows and stores them into two others, in whatever order its draw allows: the first store may go ahead of the second reading. -/
theorem wp_region_pair {P : Program} {id : Nat} {Q : Exit → Act → World → Prop} {a : Act} {w : World} {l0 l1 s0 s1 : Oper} (hm : P.follows .mixedOrders = true)
    (r0 : Region.ready .any #[l0, l1, s0, s1] #[false, false, false, false] = [0, 1]) (r1 : Region.ready .any #[l0, l1, s0, s1] #[true, false, false, false] = [1, 2]) (r2 : Region.ready .any #[l0, l1, s0, s1] #[false, true, false, false] = [0])
    (r3 : Region.ready .any #[l0, l1, s0, s1] #[true, true, false, false] = [2]) (r4 : Region.ready .any #[l0, l1, s0, s1] #[true, false, true, false] = [1]) (r5 : Region.ready .any #[l0, l1, s0, s1] #[true, true, true, false] = [3])
    (r6 : Region.ready .any #[l0, l1, s0, s1] #[true, true, true, true] = [])
    (ty tz : TypeId) (x0 x1 y0 y1 : Operand) (d0 d1 : Tmp) (o0 : l0.op = .load ty x0) (o1 : l1.op = .load tz x1) (q0 : s0.op = .store ty y0 (.tmp d0)) (q1 : s1.op = .store tz y1 (.tmp d1))
    (e0 : l0.dst = some d0) (e1 : l1.dst = some d1) (e2 : s0.dst = none) (e3 : s1.dst = none) (k0 : l0.guard = none) (k1 : l1.guard = none) (k2 : s0.guard = none) (k3 : s1.guard = none)
    (g0 g1 g2 g3 : Nat) (c0 c1 z0 z1 : Array Value) (t0 t1 t2 t3 : TypeId) (f0 f1 : Nat × Nat) (D D' : TypeDesc) (af : Act)
    (n0 : w.heap[g0]? = some (.cells c0 t0 f0)) (n1 : w.heap[g1]? = some (.cells c1 t1 f1)) (n2 : w.heap[g2]? = some (.cells z0 t2 (0, 0))) (n3 : w.heap[g3]? = some (.cells z1 t3 (0, 0))) (n12 : g1 ≠ g2) (n23 : g3 ≠ g2)
    (hu : P.underlying ty = some D) (hd : (match D with | .struct _ | .array _ _ => true | _ => false) = true) (hi : (P.info? ty).map (·.size) = some c0.size) (hz : z0.size = c0.size) (h1 : c0.all (·.oneCell') = true)
    (hu' : P.underlying tz = some D') (hd' : (match D' with | .struct _ | .array _ _ => true | _ => false) = true) (hi' : (P.info? tz).map (·.size) = some c1.size) (hz' : z1.size = c1.size) (h1' : c1.all (·.oneCell') = true)
    (v0 : a.eval x0 = .pointer (some ⟨g0, 0, none⟩)) (v1 : a.eval x1 = .pointer (some ⟨g1, 0, none⟩))
    (v0' : (a.put (some d1) (.agg c1)).eval x0 = .pointer (some ⟨g0, 0, none⟩)) (v1' : (a.put (some d0) (.agg c0)).eval x1 = .pointer (some ⟨g1, 0, none⟩))
    (u0 : (a.put (some d0) (.agg c0)).eval y0 = .pointer (some ⟨g2, 0, none⟩)) (u0' : (a.put (some d0) (.agg c0)).eval (.tmp d0) = .agg c0)
    (hf1 : (a.put (some d0) (.agg c0)).put (some d1) (.agg c1) = af) (hf2 : (a.put (some d1) (.agg c1)).put (some d0) (.agg c0) = af)
    (p0 : af.eval y0 = .pointer (some ⟨g2, 0, none⟩)) (p1 : af.eval y1 = .pointer (some ⟨g3, 0, none⟩)) (p2 : af.eval (.tmp d0) = .agg c0) (p3 : af.eval (.tmp d1) = .agg c1)
    (h : ∀ w1, Below w.heap.size w w1 → Q .normal af ((w1.setRow g2 c0).setRow g3 c1)) :
    (Code.region id #[l0, l1, s0, s1] true).wp P Q a w := by
  refine wp_region_any hm ?_
  have hw : Below w.heap.size w { w with drawn := w.drawn + 1 } := ⟨rfl, rfl, rfl, Nat.le_refl _, fun _ _ => rfl⟩
  have m0 := n0; have m1 := n1; have m2 := n2; have m3 := n3
  replace h := h _ hw
  change (show World from { w with drawn := w.drawn + 1 }).heap[g0]? = _ at n0
  change (show World from { w with drawn := w.drawn + 1 }).heap[g1]? = _ at n1
  change (show World from { w with drawn := w.drawn + 1 }).heap[g2]? = _ at n2
  change (show World from { w with drawn := w.drawn + 1 }).heap[g3]? = _ at n3
  generalize ({ w with drawn := w.drawn + 1 } : World) = W at *
  have put0 : ∀ (b : Act), b.put none undef = b := fun b => rfl
  -- the last store
  have last : wpAny P .any #[l0, l1, s0, s1] Q 1 #[true, true, true, false] af (W.setRow g2 c0) := by
    refine wpAny_ready r5 (by simp) (AllReady.cons (o := s1) rfl (fun K' hK => ?_) AllReady.nil)
    rw [if_pos (by simp [Region.wanted, k3])]
    refine wp_store_row tz y1 (.tmp d1) q1 g3 c1 p1 p3 t3 z1 ((setRow_other W g2 g3 c0 n23).trans n3) hi' hz' h1' (hK _ _ ?_)
    rw [e3, put0]
    exact wpAny_done r6 h 0
  -- both read, then the stores
  have both : wpAny P .any #[l0, l1, s0, s1] Q 2 #[true, true, false, false] af W := by
    refine wpAny_ready r3 (by simp) (AllReady.cons (o := s0) rfl (fun K' hK => ?_) AllReady.nil)
    rw [if_pos (by simp [Region.wanted, k2])]
    refine wp_store_row ty y0 (.tmp d0) q0 g2 c0 p0 p2 t2 z0 n2 hi hz h1 (hK _ _ ?_)
    rw [e2, put0]
    exact last
  refine wpAny_ready (fuel := 3) r0 (by simp) (AllReady.cons (o := l0) rfl (fun K' hK => ?_) (AllReady.cons (o := l1) rfl (fun K' hK => ?_) AllReady.nil))
  · rw [if_pos (by simp [Region.wanted, k0])]
    refine wp_load_row ty x0 o0 g0 v0 t0 c0 f0 D n0 hu hd hi (hK _ _ ?_)
    rw [e0]
    refine wpAny_ready (fuel := 2) r1 (by simp) (AllReady.cons (o := l1) rfl (fun K' hK => ?_) (AllReady.cons (o := s0) rfl (fun K' hK => ?_) AllReady.nil))
    · rw [if_pos (by simp [Region.wanted, k1])]
      refine wp_load_row tz x1 o1 g1 v1' t1 c1 f1 D' n1 hu' hd' hi' (hK _ _ ?_)
      rw [e1, hf1]
      exact both
    · rw [if_pos (by simp [Region.wanted, k2])]
      refine wp_store_row ty y0 (.tmp d0) q0 g2 c0 u0 u0' t2 z0 n2 hi hz h1 (hK _ _ ?_)
      rw [e2, put0]
      refine wpAny_ready (fuel := 1) r4 (by simp) (AllReady.cons (o := l1) rfl (fun K' hK => ?_) AllReady.nil)
      rw [if_pos (by simp [Region.wanted, k1])]
      refine wp_load_row tz x1 o1 g1 v1' t1 c1 f1 D' ((setRow_other W g2 g1 c0 n12).trans n1) hu' hd' hi' (hK _ _ ?_)
      rw [e1, hf1]
      exact last
  · rw [if_pos (by simp [Region.wanted, k1])]
    refine wp_load_row tz x1 o1 g1 v1 t1 c1 f1 D' n1 hu' hd' hi' (hK _ _ ?_)
    rw [e1]
    refine wpAny_ready (fuel := 2) r2 (by simp) (AllReady.cons (o := l0) rfl (fun K' hK => ?_) AllReady.nil)
    rw [if_pos (by simp [Region.wanted, k0])]
    refine wp_load_row ty x0 o0 g0 v0' t0 c0 f0 D n0 hu hd hi (hK _ _ ?_)
    rw [e0, hf2]
    exact both
end Go.Proofs.YtlbcdjflcghkeaaDoor

namespace Go.Proofs.YtlbcdjflcghkeaaDoor
set_option maxRecDepth 100000
open Go Go.RowKit Go.Sort
/-- A call within a region, by its contract. -/
theorem wp_call_op {P : Program} {o : Oper} {a : Act} {w : World} {K : Act → World → Prop} {Q : Exit → Act → World → Prop} {f : FuncId} {args : Array Value} {v : Value} (hx : (execOp a.eval o).run P w = .ok (.enter f args) w)
    (c : Calls P f args w fun e w' => e = .returned v ∧ Below w.heap.size w w') (h : ∀ w', Below w.heap.size w w' → K (a.put o.dst v) w') : o.wp P a w K Q := by
  unfold Oper.wp
  rw [hx, Oper.upon_enter]
  exact c.mono fun e w' ⟨he, hb⟩ => by subst he; exact h w' hb
end Go.Proofs.YtlbcdjflcghkeaaDoor

namespace Go.Proofs.YtlbcdjflcghkeaaDoor
set_option maxRecDepth 100000
open Go Go.RowKit Go.Sort
/-- A call within a region, by a contract that names what it answers only behind it. -/
theorem wp_call_ex {P : Program} {o : Oper} {a : Act} {w : World} {K : Act → World → Prop} {Q : Exit → Act → World → Prop} {f : FuncId} {args : Array Value} {R : Value → World → Prop} (hx : (execOp a.eval o).run P w = .ok (.enter f args) w)
    (c : Calls P f args w fun e w' => ∃ v, e = .returned v ∧ R v w') (h : ∀ v w', R v w' → K (a.put o.dst v) w') : o.wp P a w K Q := by
  unfold Oper.wp
  rw [hx, Oper.upon_enter]
  exact c.mono fun e w' ⟨v, he, hb⟩ => by subst he; exact h v w' hb
/-- An operation that yields a value and leaves the world. -/
theorem wp_pure_op {P : Program} {o : Oper} {a : Act} {w : World} {K : Act → World → Prop} {Q : Exit → Act → World → Prop} (v : Value) (hx : (execOp a.eval o).run P w = .ok (.value v) w) (h : K (a.put o.dst v) w) : o.wp P a w K Q := by
  unfold Oper.wp
  rw [hx, Oper.upon_value]
  exact h
/-- Orders that meet: from there on one walk. -/
theorem cut_at {P : Program} {md : Region.Mode} {ops : Array Oper} {Q : Exit → Act → World → Prop} {fuel : Nat} {listed : Array Bool} {a : Act} {w : World} (f2 : Nat) (l2 : Array Bool) (S : World → Prop) (a2 : Act)
    (h1 : (∀ W, S W → wpAny P md ops Q f2 l2 a2 W) → wpAny P md ops Q fuel listed a w) (h2 : ∀ W, S W → wpAny P md ops Q f2 l2 a2 W) : wpAny P md ops Q fuel listed a w := h1 h2
theorem cut_at1 {P : Program} {md : Region.Mode} {ops : Array Oper} {Q : Exit → Act → World → Prop} {fuel : Nat} {listed : Array Bool} {a : Act} {w : World} (f2 : Nat) (l2 : Array Bool) (S : Value → World → Prop) (a2 : Value → Act)
    (h1 : (∀ v W, S v W → wpAny P md ops Q f2 l2 (a2 v) W) → wpAny P md ops Q fuel listed a w) (h2 : ∀ v W, S v W → wpAny P md ops Q f2 l2 (a2 v) W) : wpAny P md ops Q fuel listed a w := h1 h2
theorem cut_to {P : Program} {md : Region.Mode} {ops : Array Oper} {Q : Exit → Act → World → Prop} {fuel : Nat} {listed l2 : Array Bool} {a : Act} {W : World} (k : wpAny P md ops Q fuel l2 a W) (e : listed = l2) : wpAny P md ops Q fuel listed a W := by rw [e]; exact k
end Go.Proofs.YtlbcdjflcghkeaaDoor

namespace Go.Proofs.YtlbcdjflcghkeaaDoor
set_option maxRecDepth 100000
open Go Go.RowKit Go.Sort

/-! A region that draws its order: quiet operations first (q of them), then new blocks (up to place m), each to come up whenever it likes, then operations one behind the other. -/

def Cl (w : World) : World → Prop := fun W => ∃ p : Regrown, W = grow (redrawn w p.d) p.os
theorem Cl.refl (w : World) : Cl w w := ⟨⟨w.drawn, #[]⟩, by rw [grow_empty]; rfl⟩
theorem Cl.below {w W : World} (h : Cl w W) : Below w.heap.size w W := by obtain ⟨p, rfl⟩ := h; exact below_regrown w p.d p.os

def puts (a : Act) (l : List (Tmp × Value)) : Act := l.foldl (fun a p => a.put (some p.1) p.2) a
theorem puts_snoc (a : Act) (l : List (Tmp × Value)) (t : Tmp) (v : Value) : puts a (l ++ [(t, v)]) = (puts a l).put (some t) v := by simp [puts]
theorem puts_put (l : List (Tmp × Value)) : ∀ (a : Act) (d : Option Tmp) (v : Value), (∀ p ∈ l, d ≠ some p.1) → (puts a l).put d v = puts (a.put d v) l := by
  induction l with
  | nil => intro a d v _; rfl
  | cons p l ih =>
    intro a d v h
    have h1 : (a.put (some p.1) p.2).put d v = (a.put d v).put (some p.1) p.2 := Act.put_comm a p.2 v (fun x hx => by injection hx with hx; subst hx; exact h p (by simp))
    show (puts (a.put (some p.1) p.2) l).put d v = puts ((a.put d v).put (some p.1) p.2) l
    rw [ih _ _ _ (fun p' hp => h p' (by simp [hp])), h1]
theorem puts_perm {l l' : List (Tmp × Value)} (hp : l.Perm l') : ∀ a : Act, (l.map (·.1)).Nodup → puts a l = puts a l' := by
  induction hp with
  | nil => intro a _; rfl
  | cons x _ ih => intro a hn; simp only [List.map_cons, List.nodup_cons] at hn; exact ih _ hn.2
  | swap x y l =>
    intro a hn
    simp only [List.map_cons, List.nodup_cons, List.mem_cons, not_or] at hn
    show puts ((a.put (some y.1) y.2).put (some x.1) x.2) l = puts ((a.put (some x.1) x.2).put (some y.1) y.2) l
    rw [Act.put_comm a y.2 x.2 (fun d hd h => by injection hd with hd; injection h with h; exact hn.1.1 (hd.trans h.symm))]
  | trans h1 _ ih1 ih2 => intro a hn; rw [ih1 a hn, ih2 a ((h1.map _).nodup_iff.1 hn)]

section
variable {P : Program} {L : List Oper} {q m : Nat} {Ts : List Tmp}

def apB (L : List Oper) (q : Nat) (Ts : List Tmp) : Bool := (L.take q).all fun o => Ts.all fun t => !(o.looksAt L.toArray).contains t && o.dst != some t
def gdB (L : List Oper) (q : Nat) : Bool := (L.take q).all fun o => match o.guard with | some (j, _) => decide (j < q) | none => true
def dsB (L : List Oper) (q : Nat) : Bool := decide (((L.take q).filterMap (·.dst)).Nodup)
def edgeB (L : List Oper) (k j : Nat) : Bool := ((L[k]?).map fun o => o.after.toList.any fun e => Region.binds .any e && e.on == j).getD false
def downB (L : List Oper) (m : Nat) : Bool := (List.range m).all fun j => (List.range (m + 1)).any fun k => edgeB L k j
def seqB (L : List Oper) (m : Nat) : Bool := (List.range L.length).all fun k => decide (k ≤ m) || edgeB L k (k - 1)

theorem edge_listed {listed : Array Bool} {k j : Nat} (h : edgeB L k j = true) {x : Oper} (hx : L[k]? = some x) (hall : ∀ e ∈ x.after, Region.binds .any e = true → listed.getD e.on false = true) : listed.getD j false = true := by
  simp only [edgeB, hx, Option.map_some, Option.getD_some, List.any_eq_true, Bool.and_eq_true, beq_iff_eq] at h
  obtain ⟨e, he, hb, hon⟩ := h
  rw [← hon]
  exact hall e (by simpa using he) hb
theorem edge_lt (hO : ordB L = true) {k j : Nat} (h : edgeB L k j = true) : j < k ∧ k < L.length := by
  have hk : k < L.length := by
    rcases Nat.lt_or_ge k L.length with h' | h'
    · exact h'
    · simp [edgeB, List.getElem?_eq_none h'] at h
  refine ⟨?_, hk⟩
  simp only [ordB, List.all_eq_true, List.mem_range] at hO
  have h1 := hO k hk
  have hk' : L[k]? = some L[k] := List.getElem?_eq_getElem hk
  rw [hk'] at h1
  simp only [edgeB, hk', Option.map_some, Option.getD_some, List.any_eq_true, Bool.and_eq_true, beq_iff_eq] at h
  obtain ⟨e, he, hb, hon⟩ := h
  simp only [Option.map_some, Option.getD_some, Array.all_eq_true_iff_forall_mem] at h1
  have h2 := h1 e (by simpa using he)
  rw [hb] at h2
  simp at h2
  omega
theorem getD_tf {listed : Array Bool} {j : Nat} (h : listed.getD j false = true) : listed.getD j true = true := by
  rcases Nat.lt_or_ge j listed.size with h' | h'
  · simp [h'] at h ⊢; exact h
  · simp [Array.getElem?_eq_none h'] at h

theorem all_before (hO : ordB L = true) (hdn : downB L m = true) {listed : Array Bool} (hc : Closed L listed) (hr : m ∈ Region.ready .any L.toArray listed) : ∀ j, j < m → listed.getD j false = true := by
  obtain ⟨_, o', ho', hall⟩ := mem_ready.1 hr
  have ho : L[m]? = some o' := by simpa using ho'
  simp only [downB, List.all_eq_true, List.mem_range, List.any_eq_true] at hdn
  have key : ∀ d j, j + d + 1 = m → listed.getD j false = true := by
    intro d
    induction d using Nat.strongRecOn with
    | ind d ih =>
      intro j hj
      obtain ⟨k, hk, he⟩ := hdn j (by omega)
      have hlt := edge_lt hO he
      by_cases hkm : k = m
      · subst hkm; exact edge_listed he ho hall
      · have h3 := ih (m - k - 1) (by omega) k (by omega)
        exact edge_listed he (List.getElem?_eq_getElem hlt.2) (hc k _ (List.getElem?_eq_getElem hlt.2) h3)
  intro j hj
  exact key (m - j - 1) j (by omega)

theorem late_not (hsq : seqB L m = true) {listed : Array Bool} (hc : Closed L listed) (hm : listed.getD m false = false) : ∀ k, k ∈ Region.ready .any L.toArray listed → k ≤ m := by
  intro k hk
  obtain ⟨_, x, hx, hall⟩ := mem_ready.1 hk
  have hx' : L[k]? = some x := by simpa using hx
  have hkl : k < L.length := (List.getElem?_eq_some_iff.1 hx').1
  simp only [seqB, List.all_eq_true, List.mem_range, Bool.or_eq_true, decide_eq_true_eq] at hsq
  rcases Nat.lt_or_ge m k with hmk | hmk
  · exfalso
    have key : ∀ d j, m + d = j → j < k → listed.getD j false = true → False := by
      intro d
      induction d with
      | zero => intro j hj _ h; rw [← hj] at h; simp only [Nat.add_zero] at h; rw [hm] at h; cases h
      | succ d ih =>
        intro j hj hjk h
        have hjl : j < L.length := by omega
        have he := (hsq j hjl).resolve_left (by omega)
        exact ih (j - 1) (by omega) (by omega) (edge_listed he (List.getElem?_eq_getElem hjl) (hc j _ (List.getElem?_eq_getElem hjl) h))
    have he := (hsq k hkl).resolve_left (by omega)
    exact key (k - 1 - m) (k - 1) (by omega) (by omega) (edge_listed he hx' hall)
  · exact hmk

theorem tail_seq {Q : Exit → Act → World → Prop} (hO : ordB L = true) (hsq : seqB L m = true) : ∀ (T : List Oper) (c : Nat), m ≤ c → L.drop c = T → ∀ (F : Nat) (listed : Array Bool) (a : Act) (w : World), T.length ≤ F → listed.size = L.length →
    (∀ j, j < L.length → (listed.getD j true = true ↔ j < c)) → wpList P L.toArray Q T a w → wpAny P .any L.toArray Q F listed a w := by
  intro T
  induction T with
  | nil =>
    intro c hmc hT F listed a w hF hs hl h
    have hcl : L.length ≤ c := by simpa using hT
    have hn : Region.ready .any L.toArray listed = [] := by
      apply List.eq_nil_iff_forall_not_mem.2
      intro j hj
      obtain ⟨h0, x, hx, _⟩ := mem_ready.1 hj
      have hjl : j < L.length := by have := (Array.getElem?_eq_some_iff.1 hx).1; simpa using this
      rw [(hl j hjl).2 (by omega)] at h0
      cases h0
    cases F with
    | zero => exact ⟨hn, h⟩
    | succ F => exact ⟨fun _ => h, fun i hi => by rw [hn] at hi; cases hi⟩
  | cons o T ih =>
    intro c hmc hT F listed a w hF hs hl h
    have hcl : c < L.length := by
      rcases Nat.lt_or_ge c L.length with h' | h'
      · exact h'
      · rw [List.drop_eq_nil_of_le h'] at hT; cases hT
    have ho : L[c]? = some o := by
      have := congrArg (fun l => l[0]?) hT
      simpa using this
    have hT' : L.drop (c + 1) = T := by
      have := congrArg List.tail hT
      simpa [List.tail_drop] using this
    obtain ⟨F, rfl⟩ : ∃ F', F = F' + 1 := ⟨F - 1, by simp at hF; omega⟩
    have hun : listed.getD c true = false := by
      cases hx : listed.getD c true with
      | false => rfl
      | true => have := (hl c hcl).1 hx; omega
    refine ⟨fun h0 => absurd h0 (ready_some hO hs c hcl hun), fun i hi => ?_⟩
    obtain ⟨h0, x, hx, hall⟩ := mem_ready.1 hi
    have hx' : L[i]? = some x := by simpa using hx
    have hil : i < L.length := (List.getElem?_eq_some_iff.1 hx').1
    have hic : ¬ i < c := fun hh => by rw [(hl i hil).2 hh] at h0; cases h0
    have : i = c := by
      rcases Nat.lt_or_ge c i with hci | hci
      · exfalso
        simp only [seqB, List.all_eq_true, List.mem_range, Bool.or_eq_true, decide_eq_true_eq] at hsq
        have he := (hsq i hil).resolve_left (by omega)
        have h3 := getD_tf (edge_listed he hx' hall)
        have := (hl (i - 1) (by omega)).1 h3
        omega
      · omega
    subst this
    unfold wpOp
    have ho' : L.toArray[i]? = some o := by simpa using ho
    simp only [ho']
    have hl' : ∀ j, j < L.length → ((listed.setIfInBounds i true).getD j true = true ↔ j < i + 1) := by
      intro j hj
      by_cases e : i = j
      · subst e; simp [show i < listed.size by omega]
      · rw [getD_set_ne true e, hl j hj]; omega
    have step : ∀ a' w', wpList P L.toArray Q T a' w' → wpAny P .any L.toArray Q F (listed.setIfInBounds i true) a' w' := fun a' w' hh =>
      ih (i + 1) (by omega) hT' F _ a' w' (by simp at hF; omega) (by simpa using hs) hl' hh
    simp only [wpList] at h
    split at h
    · rename_i hw; rw [if_pos hw]; exact h.imp_left fun h2 => Oper.wp_mono step h2
    · rename_i hw; rw [if_neg hw]; exact step _ _ h

end
end Go.Proofs.YtlbcdjflcghkeaaDoor

namespace Go.Proofs.YtlbcdjflcghkeaaDoor
set_option maxRecDepth 100000
open Go Go.RowKit Go.Sort

section
variable {P : Program}

theorem put_ne (a : Act) (x : Option Tmp) (v : Value) (d : Tmp) (h : x ≠ some d) : (a.put x v).tmps[d]? = a.tmps[d]? := by
  cases x with
  | none => rfl
  | some e =>
    have : e ≠ d := fun h' => h (by rw [h'])
    simp [Act.put, Array.getElem?_setIfInBounds_ne this]
theorem put_same (a : Act) (x : Option Tmp) (v v1 : Value) (h : ∀ d, x = some d → (a.put x v).tmps[d]? = (a.put x v1).tmps[d]?) : a.put x v = a.put x v1 := by
  cases x with
  | none => rfl
  | some d =>
    have h1 := h d rfl
    rcases Nat.lt_or_ge d a.tmps.size with hd | hd
    · simp [Act.put, hd] at h1
      rw [h1]
    · simp [Act.put, Array.setIfInBounds_eq_of_size_le hd]

theorem slot_kept {ops : Array Oper} {C : World → Prop} {af : Act} {d : Tmp} : ∀ (k : Nat) (listed : Array Bool) (a : Act), wpAnyQ P .any ops C (fun x => x = af) k listed a →
    (∀ i o, ops[i]? = some o → listed.getD i true = false → o.dst ≠ some d) → af.tmps[d]? = a.tmps[d]? := by
  intro k
  induction k with
  | zero => intro listed a H _; rw [H.2]
  | succ k ih =>
    intro listed a H hd
    cases hr : Region.ready .any ops listed with
    | nil => rw [H.1 hr]
    | cons i l =>
      have hi : i ∈ Region.ready .any ops listed := by rw [hr]; simp
      obtain ⟨h0, o, ho, _⟩ := mem_ready.1 hi
      obtain ⟨v, _, hK⟩ := yieldsIn_of_qOp ho (H.2 i hi)
      rw [ih _ _ hK (fun j o' ho' hun => hd j o' ho' (by
        by_cases e : i = j
        · subst e; exact h0
        · rw [getD_set_ne true e] at hun; exact hun)), put_ne _ _ _ _ (hd i o ho h0)]

theorem any_irrel {ops : Array Oper} {C : World → Prop} {R : Act → Prop} {i : Nat} (hi : ops.size ≤ i) (hO : ∀ (j : Nat) (o : Oper), ops[j]? = some o → ∀ e ∈ o.after, Region.binds .any e = true → e.on < j) :
    ∀ (k : Nat) (listed : Array Bool) (a : Act), wpAnyQ P .any ops C R k listed a → wpAnyQ P .any ops C R k (listed.setIfInBounds i true) a := by
  have hm : ∀ (listed : Array Bool) (j : Nat), j ∈ Region.ready .any ops (listed.setIfInBounds i true) ↔ j ∈ Region.ready .any ops listed := by
    intro listed j
    rw [mem_ready, mem_ready]
    constructor
    · rintro ⟨h0, o, ho, hall⟩
      have hj : j < ops.size := (Array.getElem?_eq_some_iff.1 ho).1
      rw [getD_set_ne true (show i ≠ j by omega)] at h0
      exact ⟨h0, o, ho, fun e he hb => by have h1 := hall e he hb; have := hO j o ho e he hb; rwa [getD_set_ne false (show i ≠ e.on by omega)] at h1⟩
    · rintro ⟨h0, o, ho, hall⟩
      have hj : j < ops.size := (Array.getElem?_eq_some_iff.1 ho).1
      exact ⟨by rw [getD_set_ne true (show i ≠ j by omega)]; exact h0, o, ho, fun e he hb => getD_set_true (hall e he hb)⟩
  have hn : ∀ listed : Array Bool, Region.ready .any ops (listed.setIfInBounds i true) = [] ↔ Region.ready .any ops listed = [] := by
    intro listed
    rw [List.eq_nil_iff_forall_not_mem, List.eq_nil_iff_forall_not_mem]
    exact forall_congr' fun j => not_congr (hm listed j)
  intro k
  induction k with
  | zero => intro listed a H; exact ⟨(hn _).2 H.1, H.2⟩
  | succ k ih =>
    intro listed a H
    refine ⟨fun h => H.1 ((hn _).1 h), fun j hj => ?_⟩
    have hj' := (hm listed j).1 hj
    obtain ⟨_, o, ho, _⟩ := mem_ready.1 hj'
    have hjs : j < ops.size := (Array.getElem?_eq_some_iff.1 ho).1
    rw [Array.setIfInBounds_comm _ _ (show i ≠ j by omega)]
    exact qOp_mono (fun a' h => ih _ a' h) (H.2 j hj')

variable {L : List Oper} {q m : Nat} {Ts : List Tmp}

theorem take_at {i : Nat} (hi : i < q) : (L.take q).toArray[i]? = L.toArray[i]? := by
  simp [hi]

theorem wanted_take {i : Nat} {o : Oper} (hg : gdB L q = true) (ho : L[i]? = some o) (hi : i < q) (t : Array Value) : Region.wanted o (yielded (L.take q).toArray t) = Region.wanted o (yielded L.toArray t) := by
  have hmem : o ∈ L.take q := List.mem_iff_getElem?.2 ⟨i, by rw [List.getElem?_take, if_pos hi]; exact ho⟩
  simp only [gdB, List.all_eq_true] at hg
  have h1 := hg o hmem
  unfold Region.wanted
  cases hgd : o.guard with
  | none => rfl
  | some p =>
    obtain ⟨j, b⟩ := p
    rw [hgd] at h1
    simp at h1
    have : yielded (L.take q).toArray t j = yielded L.toArray t j := by
      unfold yielded
      rw [take_at h1]
    simp only [this]

theorem ap_look (h : apB L q Ts = true) {i : Nat} {o : Oper} (ho : L[i]? = some o) (hi : i < q) {t : Tmp} (ht : t ∈ Ts) : t ∉ o.looksAt L.toArray ∧ o.dst ≠ some t := by
  have hmem : o ∈ L.take q := List.mem_iff_getElem?.2 ⟨i, by rw [List.getElem?_take, if_pos hi]; exact ho⟩
  simp only [apB, List.all_eq_true] at h
  have h1 := h o hmem t ht
  simpa using h1

theorem exec_puts (o : Oper) (hs : ∀ cs b, o.op ≠ .select cs b) (l : List (Tmp × Value)) : ∀ a : Act, (∀ p ∈ l, p.1 ∉ o.looksAt L.toArray) → execOp (puts a l).eval o = execOp a.eval o := by
  induction l with
  | nil => intro a _; rfl
  | cons p l ih =>
    intro a h
    show execOp (puts (a.put (some p.1) p.2) l).eval o = _
    rw [ih _ (fun p' hp => h p' (by simp [hp])), execOp_put (ops := L.toArray) o hs a (some p.1) p.2 (fun d hd => by injection hd with hd; subst hd; exact h p (by simp))]
theorem wanted_puts (o : Oper) (l : List (Tmp × Value)) : ∀ a : Act, (∀ p ∈ l, p.1 ∉ o.looksAt L.toArray) → Region.wanted o (yielded L.toArray (puts a l).tmps) = Region.wanted o (yielded L.toArray a.tmps) := by
  induction l with
  | nil => intro a _; rfl
  | cons p l ih =>
    intro a h
    show Region.wanted o (yielded L.toArray (puts (a.put (some p.1) p.2) l).tmps) = _
    rw [ih _ (fun p' hp => h p' (by simp [hp])), wanted_put (ops := L.toArray) o a (some p.1) p.2 (fun d hd => by injection hd with hd; subst hd; exact h p (by simp))]

theorem ds_ne (h : dsB L q = true) {i j : Nat} {o o' : Oper} (hi : i < q) (hj : j < q) (ho : L[i]? = some o) (ho' : L[j]? = some o') (hij : i ≠ j) {d : Tmp} (hd : o.dst = some d) : o'.dst ≠ some d := by
  intro hd'
  simp only [dsB, decide_eq_true_eq] at h
  have key : ∀ (l : List Oper), (l.filterMap (·.dst)).Nodup → ∀ (i j : Nat), i < j → l[i]? = some o → l[j]? = some o' → False := by
    intro l
    induction l with
    | nil => intro _ i j _ h1; simp at h1
    | cons x l ih =>
      intro hn i j hlt h1 h2
      cases i with
      | zero =>
        simp at h1
        subst h1
        obtain ⟨j, rfl⟩ : ∃ j', j = j' + 1 := ⟨j - 1, by omega⟩
        simp at h2
        rw [List.filterMap_cons, hd] at hn
        simp only [List.nodup_cons] at hn
        exact hn.1 (List.mem_filterMap.2 ⟨o', List.mem_iff_getElem?.2 ⟨j, h2⟩, hd'⟩)
      | succ i =>
        obtain ⟨j, rfl⟩ : ∃ j', j = j' + 1 := ⟨j - 1, by omega⟩
        simp at h1 h2
        refine ih ?_ i j (by omega) h1 h2
        rw [List.filterMap_cons] at hn
        cases hx : x.dst with
        | none => simpa [hx] using hn
        | some _ => rw [hx] at hn; simp only [List.nodup_cons] at hn; exact hn.2
  have hi' : (L.take q)[i]? = some o := by rw [List.getElem?_take, if_pos hi]; exact ho
  have hj' : (L.take q)[j]? = some o' := by rw [List.getElem?_take, if_pos hj]; exact ho'
  rcases Nat.lt_or_ge i j with hlt | hge
  · exact key _ h i j hlt hi' hj'
  · have key2 : ∀ (l : List Oper), (l.filterMap (·.dst)).Nodup → ∀ (i j : Nat), j < i → l[i]? = some o → l[j]? = some o' → False := by
      intro l
      induction l with
      | nil => intro _ i j _ h1; simp at h1
      | cons x l ih =>
        intro hn i j hlt h1 h2
        cases j with
        | zero =>
          simp at h2
          subst h2
          obtain ⟨i, rfl⟩ : ∃ j', i = j' + 1 := ⟨i - 1, by omega⟩
          simp at h1
          rw [List.filterMap_cons, hd'] at hn
          simp only [List.nodup_cons] at hn
          exact hn.1 (List.mem_filterMap.2 ⟨o, List.mem_iff_getElem?.2 ⟨i, h1⟩, hd⟩)
        | succ j =>
          obtain ⟨i, rfl⟩ : ∃ j', i = j' + 1 := ⟨i - 1, by omega⟩
          simp at h1 h2
          refine ih ?_ i j (by omega) h1 h2
          rw [List.filterMap_cons] at hn
          cases hx : x.dst with
          | none => simpa [hx] using hn
          | some _ => rw [hx] at hn; simp only [List.nodup_cons] at hn; exact hn.2
    exact key2 _ h i j (by omega) hi' hj'

end
end Go.Proofs.YtlbcdjflcghkeaaDoor

namespace Go.Proofs.YtlbcdjflcghkeaaDoor
set_option maxRecDepth 100000
open Go Go.RowKit Go.Sort

section
variable {P : Program} {L : List Oper} {q m : Nat} {Ts : List Tmp}

def ptrs (g : Tmp → Nat) (l : List Tmp) : List (Tmp × Value) := l.map fun t => (t, .pointer (some ⟨g t, 0, none⟩))
theorem ptrs_keys (g : Tmp → Nat) : ∀ l : List Tmp, (ptrs g l).map (·.1) = l
  | [] => rfl
  | t :: l => congrArg (t :: ·) (ptrs_keys g l)
theorem ptrs_key {g : Tmp → Nat} {l : List Tmp} {p : Tmp × Value} (h : p ∈ ptrs g l) : p.1 ∈ l := by
  simp only [ptrs, List.mem_map] at h
  obtain ⟨t, ht, rfl⟩ := h
  exact ht

theorem nodup_len : ∀ (l l' : List Tmp), l.Nodup → (∀ x ∈ l, x ∈ l') → l.length ≤ l'.length
  | [], _, _, _ => Nat.zero_le _
  | x :: l, l', hn, h => by
    have hn' := List.nodup_cons.1 hn
    have hx := h x (by simp)
    have ih := nodup_len l (l'.erase x) hn'.2 (fun y hy => (List.mem_erase_of_ne (fun e => by subst e; exact hn'.1 hy)).2 (h y (by simp [hy])))
    rw [List.length_erase_of_mem hx] at ih
    have := List.length_pos_of_mem hx
    simp
    omega

/-- What is known of the operations that lay a block. -/
def Lays (P : Program) (L : List Oper) (q m : Nat) (Ts : List Tmp) (zb : Tmp → Obj) : Prop :=
  ∀ s, q ≤ s → s < m → ∃ o t, L[s]? = some o ∧ o.dst = some t ∧ o.guard = none ∧ Ts[s - q]? = some t ∧ ∀ (a : Act) (w : World), (execOp a.eval o).run P w = .ok (.value (.pointer (some ⟨w.heap.size, 0, none⟩))) (w.alloc (zb t))

theorem hp_new (w : World) (o : Obj) : (w.alloc o).heap[w.heap.size]? = some o := by
  show (w.heap.push o)[w.heap.size]? = _
  rw [Array.getElem?_push, if_pos rfl]

theorem alloc_go {w0 : World} {af : Act} {Q : Exit → Act → World → Prop} {zb : Tmp → Obj} (hqm : q ≤ m) (hml : m < L.length) (hO : ordB L = true) (hap : apB L q Ts = true) (hgd : gdB L q = true) (hds : dsB L q = true) (hdn : downB L m = true) (hsq : seqB L m = true)
    (hns : Region.noSelect L.toArray = true) (hTl : Ts.length = m - q) (hTn : Ts.Nodup) (hal : Lays P L q m Ts zb)
    (hfin : ∀ (w : World) (g : Tmp → Nat), Below w0.heap.size w0 w → (∀ t ∈ Ts, w0.heap.size ≤ g t ∧ w.heap[g t]? = some (zb t)) → (∀ t ∈ Ts, ∀ t' ∈ Ts, t ≠ t' → g t ≠ g t') → wpList P L.toArray Q (L.drop m) (puts af (ptrs g Ts)) w) :
    ∀ (F k : Nat) (listed : Array Bool) (a : Act) (w : World) (done : List Tmp) (g : Tmp → Nat), k + (m - q - done.length) + (L.length - m) ≤ F → listed.size = L.length → Closed L listed →
      (∀ j, m ≤ j → j < L.length → listed.getD j true = false) → (∀ w1, Below w0.heap.size w0 w1 → wpAnyQ P .any (L.take q).toArray (Cl w1) (fun x => x = af) k listed a) → Below w0.heap.size w0 w →
      done.Nodup → (∀ s, q ≤ s → s < m → ∀ t, Ts[s - q]? = some t → (listed.getD s true = true ↔ t ∈ done)) → (∀ t ∈ done, t ∈ Ts) →
      (∀ t ∈ done, w0.heap.size ≤ g t ∧ w.heap[g t]? = some (zb t)) → (∀ t ∈ done, ∀ t' ∈ done, t ≠ t' → g t ≠ g t') →
      wpAny P .any L.toArray Q F listed (puts a (ptrs g done)) w := by
  have hml' : ∀ listed : Array Bool, listed.getD m true = false → listed.getD m false = false := fun listed h => by
    cases hx : listed.getD m false with
    | false => rfl
    | true => rw [getD_tf hx] at h; cases h
  have hT0 : (L.take q).length = q := by simp; omega
  intro F
  induction F with
  | zero => intro k listed a w done g hF; omega
  | succ F ih =>
    intro k listed a w done g hF hs hc hT H1 hbw hdn' hd2 hd3 hd4 hd5
    have hm0 := hml' listed (hT m (Nat.le_refl _) hml)
    by_cases hmr : m ∈ Region.ready .any L.toArray listed
    · -- all is done but what stands at the end
      have hall := all_before hO hdn hc hmr
      have hn0 : Region.ready .any (L.take q).toArray listed = [] := by
        apply List.eq_nil_iff_forall_not_mem.2
        intro j hj
        obtain ⟨h0, x, hx, _⟩ := mem_ready.1 hj
        have hjq : j < q := by have := (Array.getElem?_eq_some_iff.1 hx).1; simp at this; omega
        rw [getD_tf (hall j (by omega))] at h0
        cases h0
      have haf : a = af := by
        have h := H1 w hbw
        cases k with
        | zero => exact h.2
        | succ k => exact h.1 hn0
      have hperm : done.Perm Ts := by
        refine (List.perm_ext_iff_of_nodup hdn' hTn).2 fun t => ⟨hd3 t, fun ht => ?_⟩
        obtain ⟨i, hi⟩ := List.mem_iff_getElem?.1 ht
        have hil : i < m - q := by rw [← hTl]; exact (List.getElem?_eq_some_iff.1 hi).1
        exact (hd2 (q + i) (by omega) (by omega) t (by rw [show q + i - q = i by omega]; exact hi)).1 (getD_tf (hall (q + i) (by omega)))
      have hputs : puts a (ptrs g done) = puts af (ptrs g Ts) := by
        rw [haf]
        refine puts_perm (hperm.map _) af ?_
        have hk := ptrs_keys g done
        unfold ptrs at hk
        rw [hk]; exact hdn'
      rw [hputs]
      have hmem := fun t (ht : t ∈ Ts) => hperm.mem_iff.2 ht
      refine tail_seq hO hsq _ m (Nat.le_refl _) rfl (F + 1) listed _ w (by simp; omega) hs (fun j hj => ?_) (hfin w g hbw (fun t ht => hd4 t (hmem t ht)) (fun t ht t' ht' hne => hd5 t (hmem t ht) t' (hmem t' ht') hne))
      constructor
      · intro h
        rcases Nat.lt_or_ge j m with h' | h'
        · exact h'
        · rw [hT j h' hj] at h; cases h
      · intro h; exact getD_tf (hall j h)
    · refine ⟨fun h0 => absurd h0 (ready_some hO hs m hml (hT m (Nat.le_refl _) hml)), fun i hi => ?_⟩
      have him := late_not hsq hc hm0 i hi
      have hine : i ≠ m := fun e => hmr (e ▸ hi)
      obtain ⟨h0, o, ho', hall⟩ := mem_ready.1 hi
      have ho : L[i]? = some o := by simpa using ho'
      have hs' : (listed.setIfInBounds i true).size = L.length := by simpa using hs
      have hc' := hc.set hi
      have hT' : ∀ j, m ≤ j → j < L.length → (listed.setIfInBounds i true).getD j true = false := fun j h1 h2 => by rw [getD_set_ne true (show i ≠ j by omega)]; exact hT j h1 h2
      rcases Nat.lt_or_ge i q with hiq | hiq
      · -- a quiet operation
        have hi0 : i ∈ Region.ready .any (L.take q).toArray listed := mem_ready.2 ⟨h0, o, by rw [take_at hiq]; exact ho', hall⟩
        have ho0 : (L.take q).toArray[i]? = some o := by rw [take_at hiq]; exact ho'
        obtain ⟨k, rfl⟩ : ∃ k', k = k' + 1 := by
          cases k with
          | zero => have h := (H1 w hbw).1; rw [h] at hi0; cases hi0
          | succ k => exact ⟨k, rfl⟩
        have hY := fun w1 hw1 => yieldsIn_of_qOp ho0 ((H1 w1 hw1).2 i hi0)
        obtain ⟨v, hv, hK⟩ := hY w hbw
        have hdst : ∀ d, o.dst = some d → ∀ (j : Nat) (x : Oper), (L.take q).toArray[j]? = some x → (listed.setIfInBounds i true).getD j true = false → x.dst ≠ some d := fun d hd j x hx hun => by
          have hjq : j < q := by have := (Array.getElem?_eq_some_iff.1 hx).1; simp at this; omega
          have hli : i < listed.size := by have := (List.getElem?_eq_some_iff.1 ho).1; omega
          have hij : i ≠ j := fun e => by subst e; simp [hli] at hun
          rw [take_at hjq] at hx
          exact ds_ne hds hiq hjq ho (by simpa using hx) hij hd
        have H1' : ∀ w1, Below w0.heap.size w0 w1 → wpAnyQ P .any (L.take q).toArray (Cl w1) (fun x => x = af) k (listed.setIfInBounds i true) (a.put o.dst v) := fun w1 hw1 => by
          obtain ⟨v1, _, hK1⟩ := hY w1 hw1
          have e : a.put o.dst v = a.put o.dst v1 := put_same a o.dst v v1 fun d hd => by
            rw [← slot_kept k _ _ hK (hdst d hd), ← slot_kept k _ _ hK1 (hdst d hd)]
          rw [e]; exact hK1
        have hkeys : ∀ p ∈ ptrs g done, p.1 ∉ o.looksAt L.toArray := fun p hp => (ap_look hap ho hiq (hd3 _ (ptrs_key hp))).1
        have hdk : ∀ p ∈ ptrs g done, o.dst ≠ some p.1 := fun p hp => (ap_look hap ho hiq (hd3 _ (ptrs_key hp))).2
        have hd2' : ∀ s, q ≤ s → s < m → ∀ t, Ts[s - q]? = some t → ((listed.setIfInBounds i true).getD s true = true ↔ t ∈ done) := fun s h1 h2 t ht => by rw [getD_set_ne true (show i ≠ s by omega)]; exact hd2 s h1 h2 t ht
        have next : ∀ w', Cl w w' → wpAny P .any L.toArray Q F (listed.setIfInBounds i true) ((puts a (ptrs g done)).put o.dst v) w' := fun w' hw' => by
          rw [puts_put _ _ _ _ hdk]
          have hb := hw'.below
          refine ih k _ _ w' done g (by omega) hs' hc' hT' H1' (hbw.trans (hb.mono hbw.size)) hdn' hd2' hd3 (fun t ht => ⟨(hd4 t ht).1, ?_⟩) hd5
          have h1 := (hd4 t ht).2
          rw [hb.block _ (Array.getElem?_eq_some_iff.1 h1).1]; exact h1
        unfold wpOp
        simp only [ho']
        have hw1 : Region.wanted o (yielded L.toArray (puts a (ptrs g done)).tmps) = Region.wanted o (yielded (L.take q).toArray a.tmps) := by rw [wanted_puts o _ a hkeys, wanted_take hgd ho hiq]
        rcases hv with ⟨hw, hv⟩ | ⟨hw, rfl⟩
        · rw [hw1, if_pos hw]
          refine .inl (Oper.wp_of_quiet (C := Cl w) (K := fun x => x = (puts a (ptrs g done)).put o.dst v) (Cl.refl w) (fun a2 w' hw' he => by rw [he]; exact next w' hw') ⟨v, fun W hW => ?_, rfl⟩)
          have := hv W hW
          unfold Oper.quietAt at this ⊢
          rwa [exec_puts o (Region.noSelect_spec hns i o · · ho') _ a hkeys]
        · rw [hw1, if_neg (by rw [hw]; decide)]
          exact next w (Cl.refl w)
      · -- a new block
        obtain ⟨o2, t, ho2, hdt, hg0, hTs, hrun⟩ := hal i hiq (by omega)
        have : o2 = o := by rw [ho] at ho2; injection ho2 with h; exact h.symm
        subst this
        have htd : t ∉ done := fun h => by rw [(hd2 i hiq (by omega) t hTs).2 h] at h0; cases h0
        have htT : t ∈ Ts := List.mem_iff_getElem?.2 ⟨_, hTs⟩
        unfold wpOp
        simp only [ho']
        rw [if_pos (by simp [Region.wanted, hg0])]
        refine .inl ?_
        unfold Oper.wp
        rw [hrun]
        simp only [Oper.upon]
        rw [hdt]
        have hlen : done.length < m - q := by
          have hsub : (t :: done).length ≤ Ts.length := nodup_len _ _ (List.nodup_cons.2 ⟨htd, hdn'⟩) (fun x hx => by rcases List.mem_cons.1 hx with rfl | h; exact htT; exact hd3 x h)
          simp at hsub; omega
        let g' : Tmp → Nat := fun x => if x = t then w.heap.size else g x
        have hg' : ∀ x ∈ done, g' x = g x := fun x hx => by show (if x = t then _ else _) = _; rw [if_neg (fun e : x = t => htd (e ▸ hx))]
        have hgt : g' t = w.heap.size := by show (if t = t then _ else _) = _; rw [if_pos rfl]
        have e1 : (puts a (ptrs g done)).put (some t) (.pointer (some ⟨w.heap.size, 0, none⟩)) = puts a (ptrs g' (done ++ [t])) := by
          have e2 : ptrs g' (done ++ [t]) = ptrs g done ++ [(t, .pointer (some ⟨w.heap.size, 0, none⟩))] := by
            simp only [ptrs, List.map_append, List.map_cons, List.map_nil, hgt]
            congr 1
            exact List.map_congr_left fun x hx => by rw [hg' x hx]
          rw [e2, puts_snoc]
        rw [e1]
        have hszw := hbw.size
        have hlt : ∀ x ∈ done, g x < w.heap.size := fun x hx => (Array.getElem?_eq_some_iff.1 (hd4 x hx).2).1
        refine ih k _ _ _ (done ++ [t]) g' (by simp; omega) hs' hc' hT' (fun w1 hw1 => any_irrel (by simp; omega) (fun j x hx e he hb => ?_) k _ _ (H1 w1 hw1)) (hbw.alloc hszw _) ?_ (fun s h1 h2 t' ht' => ?_) (fun x hx => ?_) (fun x hx => ?_) (fun x hx x' hx' hne => ?_)
        · have hjq : j < q := by have := (Array.getElem?_eq_some_iff.1 hx).1; simp at this; omega
          rw [take_at hjq] at hx
          have hx' : L[j]? = some x := by simpa using hx
          have hO' := hO
          simp only [ordB, List.all_eq_true, List.mem_range] at hO'
          have h1 := hO' j (List.getElem?_eq_some_iff.1 hx').1
          rw [hx'] at h1
          simp only [Option.map_some, Option.getD_some, Array.all_eq_true_iff_forall_mem] at h1
          have h2 := h1 e he
          rw [hb] at h2
          simpa using h2
        · exact List.nodup_append.2 ⟨hdn', by simp, fun x hx y hy => by simp at hy; subst hy; exact fun e => htd (e ▸ hx)⟩
        · by_cases e : i = s
          · subst e
            rw [hTs] at ht'
            injection ht' with ht'
            subst ht'
            have hlt2 : i < listed.size := by have := (List.getElem?_eq_some_iff.1 ho).1; omega
            simp [hlt2]
          · rw [getD_set_ne true e, hd2 s h1 h2 t' ht']
            constructor
            · intro h; simp [h]
            · intro h
              rcases List.mem_append.1 h with h | h
              · exact h
              · exfalso
                simp at h
                subst h
                have h5 : s - q = i - q := by
                  have a1 := (List.getElem?_eq_some_iff.1 ht')
                  have a2 := (List.getElem?_eq_some_iff.1 hTs)
                  exact (List.getElem_inj hTn).1 (a1.2.trans a2.2.symm)
                omega
        · rcases List.mem_append.1 hx with h | h
          · exact hd3 x h
          · simp at h; subst h; exact htT
        · rcases List.mem_append.1 hx with h | h
          · rw [hg' x h]
            refine ⟨(hd4 x h).1, ?_⟩
            rw [Below.heap_alloc _ _ _ (hlt x h)]; exact (hd4 x h).2
          · simp at h
            subst h
            rw [hgt]
            exact ⟨hszw, hp_new w _⟩
        · rcases List.mem_append.1 hx with h | h <;> rcases List.mem_append.1 hx' with h' | h'
          · rw [hg' x h, hg' x' h']; exact hd5 x h x' h' hne
          · simp at h'; subst h'; rw [hg' x h, hgt]; have := hlt x h; omega
          · simp at h; subst h; rw [hg' x' h', hgt]; have := hlt x' h'; omega
          · simp at h h'; subst h h'; exact absurd rfl hne

/-- **THE RULE.** 'af': the frame behind the quiet operations. -/
theorem wp_region_alloc {id : Nat} {Q : Exit → Act → World → Prop} {a : Act} {w : World} (q m : Nat) (Ts : List Tmp) (zb : Tmp → Obj) (af : Act) (hm : P.follows .mixedOrders = true) (hqm : q ≤ m) (hml : m < L.length) (hO : ordB L = true) (hap : apB L q Ts = true) (hgd : gdB L q = true) (hds : dsB L q = true)
    (hdn : downB L m = true) (hsq : seqB L m = true) (hns : Region.noSelect L.toArray = true) (hlex : Region.noSelect (L.take q).toArray = true ∧ Region.lexFrom .any (L.take q).toArray q 0 (Array.replicate L.length false) = true) (hTl : Ts.length = m - q) (hTn : Ts.Nodup) (hal : Lays P L q m Ts zb)
    (hq : ∀ w1, Below w.heap.size w w1 → wpQuiet P (L.take q).toArray (fun W => ∃ p : Regrown, W = grow (redrawn w1 p.d) p.os) (fun x => x = af) (L.take q) a)
    (hfin : ∀ (w1 : World) (g : Tmp → Nat), Below w.heap.size w w1 → (∀ t ∈ Ts, w.heap.size ≤ g t ∧ w1.heap[g t]? = some (zb t)) → (∀ t ∈ Ts, ∀ t' ∈ Ts, t ≠ t' → g t ≠ g t') → wpList P L.toArray Q (L.drop m) (puts af (ptrs g Ts)) w1) :
    (Code.region id L.toArray true).wp P Q a w := by
  have hw0 : Below w.heap.size w { w with drawn := w.drawn + 1 } := ⟨rfl, rfl, rfl, Nat.le_refl _, fun _ _ => rfl⟩
  have hlen : (L.take q).length = q := by simp; omega
  refine wp_region_any hm ?_
  have h := alloc_go (w0 := w) (af := af) (Q := Q) hqm hml hO hap hgd hds hdn hsq hns hTl hTn hal hfin L.toArray.size q (Array.replicate L.toArray.size false) a { w with drawn := w.drawn + 1 } [] (fun _ => 0) (by simp; omega) (by simp)
    (fun k x hx hk => by simp only [Array.getD_eq_getD_getElem?, Array.getElem?_replicate] at hk; split at hk <;> simp at hk)
    (fun j _ hj => by simp [hj]) (fun w1 hw1 => ?_) hw0 List.nodup_nil (fun s _ hs t _ => by simp [show s < L.length by omega]) (by simp) (by simp) (by simp)
  · simpa [ptrs, puts] using h
  · have := wpAnyQ_lex (C := Cl w1) (md := .any) hlex.1 (L.take q) 0 (Array.replicate L.length false) a (by simp) (by rw [hlen]; exact hlex.2) (hq w1 hw1)
    rw [hlen] at this
    simpa using this

/-- The same, the frame left to the walk. -/
theorem wp_region_alloc_ex {id : Nat} {Q : Exit → Act → World → Prop} {a : Act} {w : World} (q m : Nat) (Ts : List Tmp) (zb : Tmp → Obj) (hm : P.follows .mixedOrders = true) (hqm : q ≤ m) (hml : m < L.length) (hO : ordB L = true) (hap : apB L q Ts = true) (hgd : gdB L q = true) (hds : dsB L q = true)
    (hdn : downB L m = true) (hsq : seqB L m = true) (hns : Region.noSelect L.toArray = true) (hlex : (Region.noSelect (L.take q).toArray && Region.lexFrom .any (L.take q).toArray q 0 (Array.replicate L.length false)) = true) (hTl : Ts.length = m - q) (hTn : Ts.Nodup) (hal : Lays P L q m Ts zb)
    (h : ∃ af, (∀ w1, Below w.heap.size w w1 → wpQuiet P (L.take q).toArray (fun W => ∃ p : Regrown, W = grow (redrawn w1 p.d) p.os) (fun x => x = af) (L.take q) a) ∧
      (∀ (w1 : World) (g : Tmp → Nat), Below w.heap.size w w1 → (∀ t ∈ Ts, w.heap.size ≤ g t ∧ w1.heap[g t]? = some (zb t)) → (∀ t ∈ Ts, ∀ t' ∈ Ts, t ≠ t' → g t ≠ g t') → wpList P L.toArray Q (L.drop m) (puts af (ptrs g Ts)) w1)) :
    (Code.region id L.toArray true).wp P Q a w := by
  obtain ⟨af, h1, h2⟩ := h
  exact wp_region_alloc q m Ts zb af hm hqm hml hO hap hgd hds hdn hsq hns (by simpa using hlex) hTl hTn hal h1 h2

end
end Go.Proofs.YtlbcdjflcghkeaaDoor
