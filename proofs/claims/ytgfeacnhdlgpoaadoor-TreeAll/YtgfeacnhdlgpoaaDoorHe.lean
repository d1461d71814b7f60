import Derived.Test.YtgfeacnhdlgpoaaDoorProg
import Derived.WalkKit
import Derived.WalkSpells
import Derived.WalkLawsBesides
import Derived.Lib.QuietBelow
import Derived.BigQuiet
import Derived.Test.YtgfeacnhdlgpoaaDoorKa
import Derived.Test.YtgfeacnhdlgpoaaDoorHd
namespace Go.Proofs.YtgfeacnhdlgpoaaDoor
set_option maxRecDepth 100000
open Go Go.RowKit Go.Sort
attribute [local go_sem] setCell_drewN alloc_drewN

def kvals (l : List Int) : Nat → List (Nat × Value) := fun n => (List.range n).map fun i => (i, .int .u32 (l.getD i 0))
theorem kbuilt : Tryd.prog.built 111 (kvals kl 64) = some (irow .u32 kl) := by kernel_rfl
theorem sbuilt : Tryd.prog.built 99 (kvals sl 8) = some (irow .u32 sl) := by kernel_rfl
theorem infok : (Tryd.prog.info? 111).map (·.size) = some (irow .u32 kl).size := by kernel_rfl
set_option maxRecDepth 100000 in
set_option maxHeartbeats 4000000 in
theorem r_constants : Gives 73 #[] (.agg (irow .u32 kl)) := by
  intro w
  have R0 := hp1_0 w (.cells (irow .u32 (zr 64)) 111)
  have HW : Below w.heap.size w (w.alloc (.cells (irow .u32 (zr 64)) 111)) := ((Below.refl _ _).alloc (Nat.le_refl _) _)

  go_enter Tryd.func73, Tryd.ntmps73
  go_wp2_with (first | (refine wpList_alloc rfl 111 rfl (irow .u32 (zr 64)) z57 ?_) | (refine wpList_build_as rfl 111 _ rfl (kvals kl 64) (by kernel_rfl) (irow .u32 kl) kbuilt ?_) | (refine wpList_store_row rfl 111 _ _ rfl (w.heap.size) (irow .u32 kl) rfl rfl 111 _ R0 infok rfl (irow_one _ _) ?_) | fail)
  replace R0 := setRow_heap (w.alloc (.cells (irow .u32 (zr 64)) 111)) (w.heap.size) _ (irow .u32 kl) _ _ R0
  replace HW := below_setRow HW (show w.heap.size ≤ w.heap.size by omega) (irow .u32 kl)
  generalize (w.alloc (.cells (irow .u32 (zr 64)) 111)).setRow (w.heap.size) (irow .u32 kl) = w9 at *
  exact bodyPost_ret (v := .agg (irow .u32 kl)) (results_cell_row Tryd.results73 _ _ (w.heap.size) _ _ _ _ rfl R0 Tryd.underlying111 rfl infok) rfl ⟨rfl, HW⟩
set_option maxRecDepth 100000 in
set_option maxHeartbeats 4000000 in
theorem r_start : Gives 62 #[] (.agg (irow .u32 sl)) := by
  intro w
  have R0 := hp1_0 w (.cells (irow .u32 (zr 8)) 99)
  have HW : Below w.heap.size w (w.alloc (.cells (irow .u32 (zr 8)) 99)) := ((Below.refl _ _).alloc (Nat.le_refl _) _)

  go_enter Tryd.func62, Tryd.ntmps62
  go_wp2_with (first | (refine wpList_alloc rfl 99 rfl (irow .u32 (zr 8)) z23 ?_) | (refine wpList_build_as rfl 99 _ rfl (kvals sl 8) (by kernel_rfl) (irow .u32 sl) sbuilt ?_) | (refine wpList_store_row rfl 99 _ _ rfl (w.heap.size) (irow .u32 sl) rfl rfl 99 _ R0 (info23 sl rfl) rfl (irow_one _ _) ?_) | fail)
  replace R0 := setRow_heap (w.alloc (.cells (irow .u32 (zr 8)) 99)) (w.heap.size) _ (irow .u32 sl) _ _ R0
  replace HW := below_setRow HW (show w.heap.size ≤ w.heap.size by omega) (irow .u32 sl)
  generalize (w.alloc (.cells (irow .u32 (zr 8)) 99)).setRow (w.heap.size) (irow .u32 sl) = w9 at *
  exact bodyPost_ret (v := .agg (irow .u32 sl)) (results_cell_row Tryd.results62 _ _ (w.heap.size) _ _ _ _ rfl R0 Tryd.underlying99 rfl (info23 sl rfl)) rfl ⟨rfl, HW⟩

end Go.Proofs.YtgfeacnhdlgpoaaDoor

