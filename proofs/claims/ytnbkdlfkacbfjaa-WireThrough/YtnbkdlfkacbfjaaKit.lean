import Derived.WalkKit
import Derived.WalkSpells
import Derived.WalkLawsBesides
import Derived.Lib.QuietBelow
import Derived.BigQuiet
namespace Go.Proofs.Ytnbkdlfkacbfjaa
open Go.RowKit Go.Sort

/-! Worlds: a whole row stored into a block that the call itself has laid. -/
theorem setRow_alloc_new (w : World) (old cs : Array Value) (t : TypeId) (fr : Nat × Nat) (n : Nat) (hn : n = w.heap.size) :
    (w.alloc (.cells old t fr)).setRow n cs = w.alloc (.cells cs t fr) := by
  subst hn
  show ({ w with heap := (w.heap.push (.cells old t fr)).modify w.heap.size _ } : World) = { w with heap := w.heap.push (.cells cs t fr) }
  congr 1
  apply Array.ext_getElem?
  intro k
  rw [Array.getElem?_modify, Array.getElem?_push, Array.getElem?_push]
  by_cases h : k = w.heap.size
  · subst h; simp
  · rw [if_neg (Ne.symm h), if_neg h]; simp [h]

theorem setRow_alloc_old (w : World) (o : Obj) (n : Nat) (cs : Array Value) (hn : n < w.heap.size) :
    (w.alloc o).setRow n cs = (w.setRow n cs).alloc o := by
  show ({ w with heap := (w.heap.push o).modify n _ } : World) = { w with heap := (w.heap.modify n _).push o }
  congr 1
  apply Array.ext_getElem?
  intro k
  rw [Array.getElem?_modify, Array.getElem?_push, Array.getElem?_push, Array.getElem?_modify, Array.size_modify]
  by_cases h : n = k
  · subst h; rw [if_pos rfl, if_neg (by omega), if_pos rfl, if_neg (by omega)]
  · rw [if_neg h, if_neg h]

theorem setRow_drew (w : World) (n : Nat) (cs : Array Value) : w.drew.setRow n cs = (w.setRow n cs).drew := rfl

theorem setCell_drewN (w : World) (n : Nat) (a : Addr) (v : Value) : (w.drewN n).setCell a v = (w.setCell a v).drewN n := rfl
theorem alloc_drewN (w : World) (n : Nat) (o : Obj) : (w.drewN n).alloc o = (w.alloc o).drewN n := rfl
theorem setRow_drewN (w : World) (n g : Nat) (cs : Array Value) : (w.drewN n).setRow g cs = (w.setRow g cs).drewN n := rfl
theorem below_drN {B : Nat} {a w : World} (h : Below B a w) (n : Nat) : Below B a (w.drewN n) := ⟨h.os, h.tape, h.output, h.size, h.block⟩
theorem ret_bool {a b : Bool} (h : a = b) : Ending.returned (.bool a) = .returned (.bool b) := by rw [h]

/-! The blocks that a call has laid, by their places. -/
theorem hp1_0 (w : World) (o0 : Obj) : (w.alloc o0).heap[w.heap.size]? = some o0 := by
  show (w.heap.push o0)[w.heap.size]? = _
  rw [Array.getElem?_push, if_pos rfl]
theorem hp2_0 (w : World) (o0 o1 : Obj) : ((w.alloc o0).alloc o1).heap[w.heap.size]? = some o0 := by
  show ((w.heap.push o0).push o1)[w.heap.size]? = _
  rw [Array.getElem?_push, if_neg (by simp only [Array.size_push]; omega)]
  rw [Array.getElem?_push, if_pos rfl]
theorem hp2_1 (w : World) (o0 o1 : Obj) : ((w.alloc o0).alloc o1).heap[w.heap.size + 1]? = some o1 := by
  show ((w.heap.push o0).push o1)[w.heap.size + 1]? = _
  rw [Array.getElem?_push, if_pos (by simp only [Array.size_push])]
theorem hp3_0 (w : World) (o0 o1 o2 : Obj) : (((w.alloc o0).alloc o1).alloc o2).heap[w.heap.size]? = some o0 := by
  show (((w.heap.push o0).push o1).push o2)[w.heap.size]? = _
  rw [Array.getElem?_push, if_neg (by simp only [Array.size_push]; omega)]
  rw [Array.getElem?_push, if_neg (by simp only [Array.size_push]; omega)]
  rw [Array.getElem?_push, if_pos rfl]
theorem hp3_1 (w : World) (o0 o1 o2 : Obj) : (((w.alloc o0).alloc o1).alloc o2).heap[w.heap.size + 1]? = some o1 := by
  show (((w.heap.push o0).push o1).push o2)[w.heap.size + 1]? = _
  rw [Array.getElem?_push, if_neg (by simp only [Array.size_push]; omega)]
  rw [Array.getElem?_push, if_pos (by simp only [Array.size_push])]
theorem hp3_2 (w : World) (o0 o1 o2 : Obj) : (((w.alloc o0).alloc o1).alloc o2).heap[w.heap.size + 1 + 1]? = some o2 := by
  show (((w.heap.push o0).push o1).push o2)[w.heap.size + 1 + 1]? = _
  rw [Array.getElem?_push, if_pos (by simp only [Array.size_push])]
theorem hp4_0 (w : World) (o0 o1 o2 o3 : Obj) : ((((w.alloc o0).alloc o1).alloc o2).alloc o3).heap[w.heap.size]? = some o0 := by
  show ((((w.heap.push o0).push o1).push o2).push o3)[w.heap.size]? = _
  rw [Array.getElem?_push, if_neg (by simp only [Array.size_push]; omega)]
  rw [Array.getElem?_push, if_neg (by simp only [Array.size_push]; omega)]
  rw [Array.getElem?_push, if_neg (by simp only [Array.size_push]; omega)]
  rw [Array.getElem?_push, if_pos rfl]
theorem hp4_1 (w : World) (o0 o1 o2 o3 : Obj) : ((((w.alloc o0).alloc o1).alloc o2).alloc o3).heap[w.heap.size + 1]? = some o1 := by
  show ((((w.heap.push o0).push o1).push o2).push o3)[w.heap.size + 1]? = _
  rw [Array.getElem?_push, if_neg (by simp only [Array.size_push]; omega)]
  rw [Array.getElem?_push, if_neg (by simp only [Array.size_push]; omega)]
  rw [Array.getElem?_push, if_pos (by simp only [Array.size_push])]
theorem hp4_2 (w : World) (o0 o1 o2 o3 : Obj) : ((((w.alloc o0).alloc o1).alloc o2).alloc o3).heap[w.heap.size + 1 + 1]? = some o2 := by
  show ((((w.heap.push o0).push o1).push o2).push o3)[w.heap.size + 1 + 1]? = _
  rw [Array.getElem?_push, if_neg (by simp only [Array.size_push]; omega)]
  rw [Array.getElem?_push, if_pos (by simp only [Array.size_push])]
theorem hp4_3 (w : World) (o0 o1 o2 o3 : Obj) : ((((w.alloc o0).alloc o1).alloc o2).alloc o3).heap[w.heap.size + 1 + 1 + 1]? = some o3 := by
  show ((((w.heap.push o0).push o1).push o2).push o3)[w.heap.size + 1 + 1 + 1]? = _
  rw [Array.getElem?_push, if_pos (by simp only [Array.size_push])]
theorem hp5_0 (w : World) (o0 o1 o2 o3 o4 : Obj) : (((((w.alloc o0).alloc o1).alloc o2).alloc o3).alloc o4).heap[w.heap.size]? = some o0 := by
  show (((((w.heap.push o0).push o1).push o2).push o3).push o4)[w.heap.size]? = _
  rw [Array.getElem?_push, if_neg (by simp only [Array.size_push]; omega)]
  rw [Array.getElem?_push, if_neg (by simp only [Array.size_push]; omega)]
  rw [Array.getElem?_push, if_neg (by simp only [Array.size_push]; omega)]
  rw [Array.getElem?_push, if_neg (by simp only [Array.size_push]; omega)]
  rw [Array.getElem?_push, if_pos rfl]
theorem hp5_1 (w : World) (o0 o1 o2 o3 o4 : Obj) : (((((w.alloc o0).alloc o1).alloc o2).alloc o3).alloc o4).heap[w.heap.size + 1]? = some o1 := by
  show (((((w.heap.push o0).push o1).push o2).push o3).push o4)[w.heap.size + 1]? = _
  rw [Array.getElem?_push, if_neg (by simp only [Array.size_push]; omega)]
  rw [Array.getElem?_push, if_neg (by simp only [Array.size_push]; omega)]
  rw [Array.getElem?_push, if_neg (by simp only [Array.size_push]; omega)]
  rw [Array.getElem?_push, if_pos (by simp only [Array.size_push])]
theorem hp5_2 (w : World) (o0 o1 o2 o3 o4 : Obj) : (((((w.alloc o0).alloc o1).alloc o2).alloc o3).alloc o4).heap[w.heap.size + 1 + 1]? = some o2 := by
  show (((((w.heap.push o0).push o1).push o2).push o3).push o4)[w.heap.size + 1 + 1]? = _
  rw [Array.getElem?_push, if_neg (by simp only [Array.size_push]; omega)]
  rw [Array.getElem?_push, if_neg (by simp only [Array.size_push]; omega)]
  rw [Array.getElem?_push, if_pos (by simp only [Array.size_push])]
theorem hp5_3 (w : World) (o0 o1 o2 o3 o4 : Obj) : (((((w.alloc o0).alloc o1).alloc o2).alloc o3).alloc o4).heap[w.heap.size + 1 + 1 + 1]? = some o3 := by
  show (((((w.heap.push o0).push o1).push o2).push o3).push o4)[w.heap.size + 1 + 1 + 1]? = _
  rw [Array.getElem?_push, if_neg (by simp only [Array.size_push]; omega)]
  rw [Array.getElem?_push, if_pos (by simp only [Array.size_push])]
theorem hp5_4 (w : World) (o0 o1 o2 o3 o4 : Obj) : (((((w.alloc o0).alloc o1).alloc o2).alloc o3).alloc o4).heap[w.heap.size + 1 + 1 + 1 + 1]? = some o4 := by
  show (((((w.heap.push o0).push o1).push o2).push o3).push o4)[w.heap.size + 1 + 1 + 1 + 1]? = _
  rw [Array.getElem?_push, if_pos (by simp only [Array.size_push])]
theorem hp6_0 (w : World) (o0 o1 o2 o3 o4 o5 : Obj) : ((((((w.alloc o0).alloc o1).alloc o2).alloc o3).alloc o4).alloc o5).heap[w.heap.size]? = some o0 := by
  show ((((((w.heap.push o0).push o1).push o2).push o3).push o4).push o5)[w.heap.size]? = _
  rw [Array.getElem?_push, if_neg (by simp only [Array.size_push]; omega)]
  rw [Array.getElem?_push, if_neg (by simp only [Array.size_push]; omega)]
  rw [Array.getElem?_push, if_neg (by simp only [Array.size_push]; omega)]
  rw [Array.getElem?_push, if_neg (by simp only [Array.size_push]; omega)]
  rw [Array.getElem?_push, if_neg (by simp only [Array.size_push]; omega)]
  rw [Array.getElem?_push, if_pos rfl]
theorem hp6_1 (w : World) (o0 o1 o2 o3 o4 o5 : Obj) : ((((((w.alloc o0).alloc o1).alloc o2).alloc o3).alloc o4).alloc o5).heap[w.heap.size + 1]? = some o1 := by
  show ((((((w.heap.push o0).push o1).push o2).push o3).push o4).push o5)[w.heap.size + 1]? = _
  rw [Array.getElem?_push, if_neg (by simp only [Array.size_push]; omega)]
  rw [Array.getElem?_push, if_neg (by simp only [Array.size_push]; omega)]
  rw [Array.getElem?_push, if_neg (by simp only [Array.size_push]; omega)]
  rw [Array.getElem?_push, if_neg (by simp only [Array.size_push]; omega)]
  rw [Array.getElem?_push, if_pos (by simp only [Array.size_push])]
theorem hp6_2 (w : World) (o0 o1 o2 o3 o4 o5 : Obj) : ((((((w.alloc o0).alloc o1).alloc o2).alloc o3).alloc o4).alloc o5).heap[w.heap.size + 1 + 1]? = some o2 := by
  show ((((((w.heap.push o0).push o1).push o2).push o3).push o4).push o5)[w.heap.size + 1 + 1]? = _
  rw [Array.getElem?_push, if_neg (by simp only [Array.size_push]; omega)]
  rw [Array.getElem?_push, if_neg (by simp only [Array.size_push]; omega)]
  rw [Array.getElem?_push, if_neg (by simp only [Array.size_push]; omega)]
  rw [Array.getElem?_push, if_pos (by simp only [Array.size_push])]
theorem hp6_3 (w : World) (o0 o1 o2 o3 o4 o5 : Obj) : ((((((w.alloc o0).alloc o1).alloc o2).alloc o3).alloc o4).alloc o5).heap[w.heap.size + 1 + 1 + 1]? = some o3 := by
  show ((((((w.heap.push o0).push o1).push o2).push o3).push o4).push o5)[w.heap.size + 1 + 1 + 1]? = _
  rw [Array.getElem?_push, if_neg (by simp only [Array.size_push]; omega)]
  rw [Array.getElem?_push, if_neg (by simp only [Array.size_push]; omega)]
  rw [Array.getElem?_push, if_pos (by simp only [Array.size_push])]
theorem hp6_4 (w : World) (o0 o1 o2 o3 o4 o5 : Obj) : ((((((w.alloc o0).alloc o1).alloc o2).alloc o3).alloc o4).alloc o5).heap[w.heap.size + 1 + 1 + 1 + 1]? = some o4 := by
  show ((((((w.heap.push o0).push o1).push o2).push o3).push o4).push o5)[w.heap.size + 1 + 1 + 1 + 1]? = _
  rw [Array.getElem?_push, if_neg (by simp only [Array.size_push]; omega)]
  rw [Array.getElem?_push, if_pos (by simp only [Array.size_push])]
theorem hp6_5 (w : World) (o0 o1 o2 o3 o4 o5 : Obj) : ((((((w.alloc o0).alloc o1).alloc o2).alloc o3).alloc o4).alloc o5).heap[w.heap.size + 1 + 1 + 1 + 1 + 1]? = some o5 := by
  show ((((((w.heap.push o0).push o1).push o2).push o3).push o4).push o5)[w.heap.size + 1 + 1 + 1 + 1 + 1]? = _
  rw [Array.getElem?_push, if_pos (by simp only [Array.size_push])]
theorem hp7_0 (w : World) (o0 o1 o2 o3 o4 o5 o6 : Obj) : (((((((w.alloc o0).alloc o1).alloc o2).alloc o3).alloc o4).alloc o5).alloc o6).heap[w.heap.size]? = some o0 := by
  show (((((((w.heap.push o0).push o1).push o2).push o3).push o4).push o5).push o6)[w.heap.size]? = _
  rw [Array.getElem?_push, if_neg (by simp only [Array.size_push]; omega)]
  rw [Array.getElem?_push, if_neg (by simp only [Array.size_push]; omega)]
  rw [Array.getElem?_push, if_neg (by simp only [Array.size_push]; omega)]
  rw [Array.getElem?_push, if_neg (by simp only [Array.size_push]; omega)]
  rw [Array.getElem?_push, if_neg (by simp only [Array.size_push]; omega)]
  rw [Array.getElem?_push, if_neg (by simp only [Array.size_push]; omega)]
  rw [Array.getElem?_push, if_pos rfl]
theorem hp7_1 (w : World) (o0 o1 o2 o3 o4 o5 o6 : Obj) : (((((((w.alloc o0).alloc o1).alloc o2).alloc o3).alloc o4).alloc o5).alloc o6).heap[w.heap.size + 1]? = some o1 := by
  show (((((((w.heap.push o0).push o1).push o2).push o3).push o4).push o5).push o6)[w.heap.size + 1]? = _
  rw [Array.getElem?_push, if_neg (by simp only [Array.size_push]; omega)]
  rw [Array.getElem?_push, if_neg (by simp only [Array.size_push]; omega)]
  rw [Array.getElem?_push, if_neg (by simp only [Array.size_push]; omega)]
  rw [Array.getElem?_push, if_neg (by simp only [Array.size_push]; omega)]
  rw [Array.getElem?_push, if_neg (by simp only [Array.size_push]; omega)]
  rw [Array.getElem?_push, if_pos (by simp only [Array.size_push])]
theorem hp7_2 (w : World) (o0 o1 o2 o3 o4 o5 o6 : Obj) : (((((((w.alloc o0).alloc o1).alloc o2).alloc o3).alloc o4).alloc o5).alloc o6).heap[w.heap.size + 1 + 1]? = some o2 := by
  show (((((((w.heap.push o0).push o1).push o2).push o3).push o4).push o5).push o6)[w.heap.size + 1 + 1]? = _
  rw [Array.getElem?_push, if_neg (by simp only [Array.size_push]; omega)]
  rw [Array.getElem?_push, if_neg (by simp only [Array.size_push]; omega)]
  rw [Array.getElem?_push, if_neg (by simp only [Array.size_push]; omega)]
  rw [Array.getElem?_push, if_neg (by simp only [Array.size_push]; omega)]
  rw [Array.getElem?_push, if_pos (by simp only [Array.size_push])]
theorem hp7_3 (w : World) (o0 o1 o2 o3 o4 o5 o6 : Obj) : (((((((w.alloc o0).alloc o1).alloc o2).alloc o3).alloc o4).alloc o5).alloc o6).heap[w.heap.size + 1 + 1 + 1]? = some o3 := by
  show (((((((w.heap.push o0).push o1).push o2).push o3).push o4).push o5).push o6)[w.heap.size + 1 + 1 + 1]? = _
  rw [Array.getElem?_push, if_neg (by simp only [Array.size_push]; omega)]
  rw [Array.getElem?_push, if_neg (by simp only [Array.size_push]; omega)]
  rw [Array.getElem?_push, if_neg (by simp only [Array.size_push]; omega)]
  rw [Array.getElem?_push, if_pos (by simp only [Array.size_push])]
theorem hp7_4 (w : World) (o0 o1 o2 o3 o4 o5 o6 : Obj) : (((((((w.alloc o0).alloc o1).alloc o2).alloc o3).alloc o4).alloc o5).alloc o6).heap[w.heap.size + 1 + 1 + 1 + 1]? = some o4 := by
  show (((((((w.heap.push o0).push o1).push o2).push o3).push o4).push o5).push o6)[w.heap.size + 1 + 1 + 1 + 1]? = _
  rw [Array.getElem?_push, if_neg (by simp only [Array.size_push]; omega)]
  rw [Array.getElem?_push, if_neg (by simp only [Array.size_push]; omega)]
  rw [Array.getElem?_push, if_pos (by simp only [Array.size_push])]
theorem hp7_5 (w : World) (o0 o1 o2 o3 o4 o5 o6 : Obj) : (((((((w.alloc o0).alloc o1).alloc o2).alloc o3).alloc o4).alloc o5).alloc o6).heap[w.heap.size + 1 + 1 + 1 + 1 + 1]? = some o5 := by
  show (((((((w.heap.push o0).push o1).push o2).push o3).push o4).push o5).push o6)[w.heap.size + 1 + 1 + 1 + 1 + 1]? = _
  rw [Array.getElem?_push, if_neg (by simp only [Array.size_push]; omega)]
  rw [Array.getElem?_push, if_pos (by simp only [Array.size_push])]
theorem hp7_6 (w : World) (o0 o1 o2 o3 o4 o5 o6 : Obj) : (((((((w.alloc o0).alloc o1).alloc o2).alloc o3).alloc o4).alloc o5).alloc o6).heap[w.heap.size + 1 + 1 + 1 + 1 + 1 + 1]? = some o6 := by
  show (((((((w.heap.push o0).push o1).push o2).push o3).push o4).push o5).push o6)[w.heap.size + 1 + 1 + 1 + 1 + 1 + 1]? = _
  rw [Array.getElem?_push, if_pos (by simp only [Array.size_push])]

/-! Results: a row, and a slot. -/
theorem results_row_tmp {P : Program} {fn : Func} {p u : Tmp} {ty : TypeId} (h : fn.results = #[.cell p ty, .tmp u]) (tmps : Array Value) (w : World) (g : Nat) (t : TypeId) (cs : Array Value) (fr : Nat × Nat) (d : TypeDesc) (v : Value)
    (hp : tmps.getD p undef = .pointer (some ⟨g, 0, none⟩)) (hv : tmps.getD u undef = v) (hg : w.heap[g]? = some (.cells cs t fr))
    (hu : P.underlying ty = some d) (hd : (match d with | .struct _ | .array _ _ => true | _ => false) = true) (hi : (P.info? ty).map (·.size) = some cs.size) :
    (results fn tmps).run P w = .ok (.tuple #[.agg cs, v]) w := by
  have hl := run_loadVar_row (P := P) w g t ty cs fr d hg hu hd hi
  rw [results_cell_tmp h, hp, hv]
  simp [asAddr, hl]

end Go.Proofs.Ytnbkdlfkacbfjaa
