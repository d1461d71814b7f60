import Derived.Test.YtnbkdlfkacbfjaaKit
import Derived.Laws.CopyOwn
namespace Go.Proofs.Ytnbkdlfkacbfjaa
open Go.RowKit Go.Sort

/-- Behind a callee that left what was there, a new block, and a row stored into block n. -/
theorem row_pack {w wr w1 : World} {A E Z : Array Value} {T TN : TypeId} (o : Obj) (hrow : wr.heap[w.heap.size]? = some (.cells A T (0, 0))) (hZ : wr.heap[w.heap.size + 1]? = some (.cells Z TN (0, 0)))
    (hbel : Below w.heap.size w wr) (hsz : w.heap.size + 2 ≤ wr.heap.size) (hb : Below wr.heap.size wr w1) :
    ((w1.alloc o).setRow w.heap.size E).heap[w.heap.size]? = some (.cells E T (0, 0)) ∧ ((w1.alloc o).setRow w.heap.size E).heap[w.heap.size + 1]? = some (.cells Z TN (0, 0)) ∧
    Below w.heap.size w ((w1.alloc o).setRow w.heap.size E) ∧ w.heap.size + 2 ≤ ((w1.alloc o).setRow w.heap.size E).heap.size := by
  have h1 := hb.size
  have a0 : (w1.alloc o).heap[w.heap.size]? = some (.cells A T (0, 0)) := (Go.heap_alloc_old w1 o (by omega)).trans ((hb.block _ (by omega)).trans hrow)
  have a1 : (w1.alloc o).heap[w.heap.size + 1]? = some (.cells Z TN (0, 0)) := (Go.heap_alloc_old w1 o (by omega)).trans ((hb.block _ (by omega)).trans hZ)
  refine ⟨setRow_heap _ _ _ _ _ _ a0, (setRow_other _ _ _ _ (by omega)).trans a1, below_setRow ((hbel.trans (hb.mono (by omega))).alloc (by omega) _) (Nat.le_refl _) _, ?_⟩
  rw [size_setRow]
  have : (w1.alloc o).heap.size = w1.heap.size + 1 := by simp
  omega

/-- Two cells of one row stored. -/
theorem two_cells {w W : World} {E Z : Array Value} {T TN : TypeId} (i j : Nat) (x y : Value) (h : W.heap[w.heap.size]? = some (.cells E T (0, 0))) (hZ : W.heap[w.heap.size + 1]? = some (.cells Z TN (0, 0)))
    (hbel : Below w.heap.size w W) (hsz : w.heap.size + 2 ≤ W.heap.size) :
    ((W.setCell ⟨w.heap.size, i, none⟩ x).setCell ⟨w.heap.size, j, none⟩ y).heap[w.heap.size]? = some (.cells ((E.setIfInBounds i x).setIfInBounds j y) T (0, 0)) ∧
    ((W.setCell ⟨w.heap.size, i, none⟩ x).setCell ⟨w.heap.size, j, none⟩ y).heap[w.heap.size + 1]? = some (.cells Z TN (0, 0)) ∧
    Below w.heap.size w ((W.setCell ⟨w.heap.size, i, none⟩ x).setCell ⟨w.heap.size, j, none⟩ y) ∧ w.heap.size + 2 ≤ ((W.setCell ⟨w.heap.size, i, none⟩ x).setCell ⟨w.heap.size, j, none⟩ y).heap.size := by
  refine ⟨heap_setCell_same _ _ _ _ _ _ (heap_setCell_same _ _ _ _ _ _ h), ?_, (hbel.setCell (Nat.le_refl _) _).setCell (Nat.le_refl _) _, by simpa using hsz⟩
  rw [heap_setCell_other _ _ _ _ (by simp), heap_setCell_other _ _ _ _ (by simp)]
  exact hZ

end Go.Proofs.Ytnbkdlfkacbfjaa
