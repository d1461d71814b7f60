import Derived.Test.YtkogejglfgghmaaDoorProg
import Derived.WalkKit
import Derived.WalkSpells
import Derived.WalkLawsBesides
import Derived.Lib.QuietBelow
import Derived.BigQuiet
import Derived.Test.YtkogejglfgghmaaDoorSa
import Derived.Test.YtkogejglfgghmaaDoorSj
import Derived.Test.YtkogejglfgghmaaDoorPb
import Derived.Test.YtkogejglfgghmaaDoorSk
import Derived.Test.YtkogejglfgghmaaDoorPa
import Derived.Test.YtkogejglfgghmaaDoorSf
import Derived.Deep.OwnRows
import Derived.Laws.CopyOwn
namespace Go.Proofs.YtkogejglfgghmaaDoor
open Go.RowKit Go.Sort
attribute [local go_sem] setCell_drewN alloc_drewN


theorem key_nine : KeyOf #[.int .u8 9, .int .u8 0, .int .u8 0, .int .u8 0, .int .u8 0, .int .u8 0, .int .u8 0, .int .u8 0, .int .u8 0, .int .u8 0, .int .u8 0, .int .u8 0, .int .u8 0, .int .u8 0, .int .u8 0, .int .u8 0, .int .u8 0, .int .u8 0, .int .u8 0, .int .u8 0, .int .u8 0, .int .u8 0, .int .u8 0, .int .u8 0, .int .u8 0, .int .u8 0, .int .u8 0, .int .u8 0, .int .u8 0, .int .u8 0, .int .u8 0, .int .u8 0] 9 := ⟨9, 0, 0, 0, 0, 0, 0, 0, 0, 0, 0, 0, 0, 0, 0, 0, 0, 0, 0, 0, 0, 0, 0, 0, 0, 0, 0, 0, 0, 0, 0, 0, rfl, by decide, rfl⟩
theorem built9 : Tryd.prog.built 34 [(0, .int .u8 9)] = some #[.int .u8 9, .int .u8 0, .int .u8 0, .int .u8 0, .int .u8 0, .int .u8 0, .int .u8 0, .int .u8 0, .int .u8 0, .int .u8 0, .int .u8 0, .int .u8 0, .int .u8 0, .int .u8 0, .int .u8 0, .int .u8 0, .int .u8 0, .int .u8 0, .int .u8 0, .int .u8 0, .int .u8 0, .int .u8 0, .int .u8 0, .int .u8 0, .int .u8 0, .int .u8 0, .int .u8 0, .int .u8 0, .int .u8 0, .int .u8 0, .int .u8 0, .int .u8 0] := by kernel_rfl
theorem built0 : Tryd.prog.built 34 [] = some #[.int .u8 0, .int .u8 0, .int .u8 0, .int .u8 0, .int .u8 0, .int .u8 0, .int .u8 0, .int .u8 0, .int .u8 0, .int .u8 0, .int .u8 0, .int .u8 0, .int .u8 0, .int .u8 0, .int .u8 0, .int .u8 0, .int .u8 0, .int .u8 0, .int .u8 0, .int .u8 0, .int .u8 0, .int .u8 0, .int .u8 0, .int .u8 0, .int .u8 0, .int .u8 0, .int .u8 0, .int .u8 0, .int .u8 0, .int .u8 0, .int .u8 0, .int .u8 0] := by kernel_rfl
theorem zero_kb : #[.int .u8 0, .int .u8 0, .int .u8 0, .int .u8 0, .int .u8 0, .int .u8 0, .int .u8 0, .int .u8 0, .int .u8 0, .int .u8 0, .int .u8 0, .int .u8 0, .int .u8 0, .int .u8 0, .int .u8 0, .int .u8 0, .int .u8 0, .int .u8 0, .int .u8 0, .int .u8 0, .int .u8 0, .int .u8 0, .int .u8 0, .int .u8 0, .int .u8 0, .int .u8 0, .int .u8 0, .int .u8 0, .int .u8 0, .int .u8 0, .int .u8 0, .int .u8 0] = kb 0 := key_kb key_zero
theorem key_zero_eq (q : Int) (h0 : 0 ≤ q) (h1 : q < 115792089237316195423570985008687907853269984665640564039457584007913129639936) (W : World) : (Op.equalIn 10000 34 (.agg (kb q)) (.agg #[.int .u8 0, .int .u8 0, .int .u8 0, .int .u8 0, .int .u8 0, .int .u8 0, .int .u8 0, .int .u8 0, .int .u8 0, .int .u8 0, .int .u8 0, .int .u8 0, .int .u8 0, .int .u8 0, .int .u8 0, .int .u8 0, .int .u8 0, .int .u8 0, .int .u8 0, .int .u8 0, .int .u8 0, .int .u8 0, .int .u8 0, .int .u8 0, .int .u8 0, .int .u8 0, .int .u8 0, .int .u8 0, .int .u8 0, .int .u8 0, .int .u8 0, .int .u8 0])).run Tryd.prog W = .ok (decide (q = 0)) W := by
  rw [zero_kb]; exact kb_equal q 0 h0 h1 (by decide) (by decide) W


set_option maxRecDepth 100000 in
set_option maxHeartbeats 4000000 in
theorem a_public {k : Array Value} {K : Int} (hk : KeyOf k K) : Gives4 21 #[.agg k] (.agg (kb (scl K 9))) := by
  have cA := a_scale hk key_nine
  have hY : KeyOf (kb (scl K 9)) (scl K 9) := kb_key _ (scl_bd K 9).1 (scl_bd K 9).2
  have hz := key_zero
  generalize scl K 9 = Y at *
  intro w hF
  have rp0 : ((w.alloc (.cells k 34)).alloc (.cells #[.int .u8 0, .int .u8 0, .int .u8 0, .int .u8 0, .int .u8 0, .int .u8 0, .int .u8 0, .int .u8 0, .int .u8 0, .int .u8 0, .int .u8 0, .int .u8 0, .int .u8 0, .int .u8 0, .int .u8 0, .int .u8 0, .int .u8 0, .int .u8 0, .int .u8 0, .int .u8 0, .int .u8 0, .int .u8 0, .int .u8 0, .int .u8 0, .int .u8 0, .int .u8 0, .int .u8 0, .int .u8 0, .int .u8 0, .int .u8 0, .int .u8 0, .int .u8 0] 34)).heap[w.heap.size]? = some (.cells k 34 (0, 0)) := hp2_0 w _ _
  have rp1 : ((w.alloc (.cells k 34)).alloc (.cells #[.int .u8 0, .int .u8 0, .int .u8 0, .int .u8 0, .int .u8 0, .int .u8 0, .int .u8 0, .int .u8 0, .int .u8 0, .int .u8 0, .int .u8 0, .int .u8 0, .int .u8 0, .int .u8 0, .int .u8 0, .int .u8 0, .int .u8 0, .int .u8 0, .int .u8 0, .int .u8 0, .int .u8 0, .int .u8 0, .int .u8 0, .int .u8 0, .int .u8 0, .int .u8 0, .int .u8 0, .int .u8 0, .int .u8 0, .int .u8 0, .int .u8 0, .int .u8 0] 34)).heap[w.heap.size + 1]? = some (.cells #[.int .u8 0, .int .u8 0, .int .u8 0, .int .u8 0, .int .u8 0, .int .u8 0, .int .u8 0, .int .u8 0, .int .u8 0, .int .u8 0, .int .u8 0, .int .u8 0, .int .u8 0, .int .u8 0, .int .u8 0, .int .u8 0, .int .u8 0, .int .u8 0, .int .u8 0, .int .u8 0, .int .u8 0, .int .u8 0, .int .u8 0, .int .u8 0, .int .u8 0, .int .u8 0, .int .u8 0, .int .u8 0, .int .u8 0, .int .u8 0, .int .u8 0, .int .u8 0] 34 (0, 0)) := hp2_1 w _ _
  have hw : Below w.heap.size w ((w.alloc (.cells k 34)).alloc (.cells #[.int .u8 0, .int .u8 0, .int .u8 0, .int .u8 0, .int .u8 0, .int .u8 0, .int .u8 0, .int .u8 0, .int .u8 0, .int .u8 0, .int .u8 0, .int .u8 0, .int .u8 0, .int .u8 0, .int .u8 0, .int .u8 0, .int .u8 0, .int .u8 0, .int .u8 0, .int .u8 0, .int .u8 0, .int .u8 0, .int .u8 0, .int .u8 0, .int .u8 0, .int .u8 0, .int .u8 0, .int .u8 0, .int .u8 0, .int .u8 0, .int .u8 0, .int .u8 0] 34)) := (((Below.refl _ _).alloc (Nat.le_refl _) _).alloc (by simp) _)
  have hz0 := hF.1
  have f4 : Four ((w.alloc (.cells k 34)).alloc (.cells #[.int .u8 0, .int .u8 0, .int .u8 0, .int .u8 0, .int .u8 0, .int .u8 0, .int .u8 0, .int .u8 0, .int .u8 0, .int .u8 0, .int .u8 0, .int .u8 0, .int .u8 0, .int .u8 0, .int .u8 0, .int .u8 0, .int .u8 0, .int .u8 0, .int .u8 0, .int .u8 0, .int .u8 0, .int .u8 0, .int .u8 0, .int .u8 0, .int .u8 0, .int .u8 0, .int .u8 0, .int .u8 0, .int .u8 0, .int .u8 0, .int .u8 0, .int .u8 0] 34)) := ((hF.alloc _).alloc _)
  go_enter Tryd.func21, Tryd.ntmps21
  iterate 9 go_step
  generalize ((w.alloc (.cells k 34)).alloc (.cells #[.int .u8 0, .int .u8 0, .int .u8 0, .int .u8 0, .int .u8 0, .int .u8 0, .int .u8 0, .int .u8 0, .int .u8 0, .int .u8 0, .int .u8 0, .int .u8 0, .int .u8 0, .int .u8 0, .int .u8 0, .int .u8 0, .int .u8 0, .int .u8 0, .int .u8 0, .int .u8 0, .int .u8 0, .int .u8 0, .int .u8 0, .int .u8 0, .int .u8 0, .int .u8 0, .int .u8 0, .int .u8 0, .int .u8 0, .int .u8 0, .int .u8 0, .int .u8 0] 34)) = w0 at *
  go_wp2_with (first | (refine wpList_load_want rfl 34 _ rfl (w.heap.size) rfl 34 k (0, 0) _ rp0 Tryd.underlying34 rfl hk.info ?_) | (refine wpList_load_want rfl 34 _ rfl (w.heap.size + 1) rfl 34 #[.int .u8 0, .int .u8 0, .int .u8 0, .int .u8 0, .int .u8 0, .int .u8 0, .int .u8 0, .int .u8 0, .int .u8 0, .int .u8 0, .int .u8 0, .int .u8 0, .int .u8 0, .int .u8 0, .int .u8 0, .int .u8 0, .int .u8 0, .int .u8 0, .int .u8 0, .int .u8 0, .int .u8 0, .int .u8 0, .int .u8 0, .int .u8 0, .int .u8 0, .int .u8 0, .int .u8 0, .int .u8 0, .int .u8 0, .int .u8 0, .int .u8 0, .int .u8 0] (0, 0) _ rp1 Tryd.underlying34 rfl hz.info ?_) | (refine wpList_build_as rfl 34 _ rfl [(0, .int .u8 9)] rfl #[.int .u8 9, .int .u8 0, .int .u8 0, .int .u8 0, .int .u8 0, .int .u8 0, .int .u8 0, .int .u8 0, .int .u8 0, .int .u8 0, .int .u8 0, .int .u8 0, .int .u8 0, .int .u8 0, .int .u8 0, .int .u8 0, .int .u8 0, .int .u8 0, .int .u8 0, .int .u8 0, .int .u8 0, .int .u8 0, .int .u8 0, .int .u8 0, .int .u8 0, .int .u8 0, .int .u8 0, .int .u8 0, .int .u8 0, .int .u8 0, .int .u8 0, .int .u8 0] built9 ?_) | fail)
  refine (cA.at f4).mono ?_
  rintro e w1 ⟨rfl, hb⟩
  replace rp0 := keep hb rp0
  replace rp1 := keep hb rp1
  replace hw := Below.after hw hb
  replace f4 := f4.below hb
  clear hb
  go_wp2_with (first | (refine wpList_store_row rfl 34 _ _ rfl (w.heap.size + 1) (kb Y) rfl rfl 34 _ rp1 hY.info (hz.size.trans hY.size.symm) hY.one ?_) | fail)
  exact bodyPost_ret (v := .agg (kb Y)) (results_cell_row Tryd.results21 _ _ (w.heap.size + 1) _ (kb Y) _ _ rfl (setRow_heap _ _ _ _ _ _ rp1) Tryd.underlying34 rfl hY.info) rfl ⟨rfl, below_setRow hw (by omega) _⟩


set_option maxRecDepth 100000 in
set_option maxHeartbeats 4000000 in
theorem r_nine : Gives 65 #[] (.agg #[.int .u8 9, .int .u8 0, .int .u8 0, .int .u8 0, .int .u8 0, .int .u8 0, .int .u8 0, .int .u8 0, .int .u8 0, .int .u8 0, .int .u8 0, .int .u8 0, .int .u8 0, .int .u8 0, .int .u8 0, .int .u8 0, .int .u8 0, .int .u8 0, .int .u8 0, .int .u8 0, .int .u8 0, .int .u8 0, .int .u8 0, .int .u8 0, .int .u8 0, .int .u8 0, .int .u8 0, .int .u8 0, .int .u8 0, .int .u8 0, .int .u8 0, .int .u8 0]) := by
  intro w
  have r0 := hp2_0 w (.cells #[.int .u8 0, .int .u8 0, .int .u8 0, .int .u8 0, .int .u8 0, .int .u8 0, .int .u8 0, .int .u8 0, .int .u8 0, .int .u8 0, .int .u8 0, .int .u8 0, .int .u8 0, .int .u8 0, .int .u8 0, .int .u8 0, .int .u8 0, .int .u8 0, .int .u8 0, .int .u8 0, .int .u8 0, .int .u8 0, .int .u8 0, .int .u8 0, .int .u8 0, .int .u8 0, .int .u8 0, .int .u8 0, .int .u8 0, .int .u8 0, .int .u8 0, .int .u8 0] 34) (.cells #[.int .u8 0, .int .u8 0, .int .u8 0, .int .u8 0, .int .u8 0, .int .u8 0, .int .u8 0, .int .u8 0, .int .u8 0, .int .u8 0, .int .u8 0, .int .u8 0, .int .u8 0, .int .u8 0, .int .u8 0, .int .u8 0, .int .u8 0, .int .u8 0, .int .u8 0, .int .u8 0, .int .u8 0, .int .u8 0, .int .u8 0, .int .u8 0, .int .u8 0, .int .u8 0, .int .u8 0, .int .u8 0, .int .u8 0, .int .u8 0, .int .u8 0, .int .u8 0] 34)
  have r1 := hp2_1 w (.cells #[.int .u8 0, .int .u8 0, .int .u8 0, .int .u8 0, .int .u8 0, .int .u8 0, .int .u8 0, .int .u8 0, .int .u8 0, .int .u8 0, .int .u8 0, .int .u8 0, .int .u8 0, .int .u8 0, .int .u8 0, .int .u8 0, .int .u8 0, .int .u8 0, .int .u8 0, .int .u8 0, .int .u8 0, .int .u8 0, .int .u8 0, .int .u8 0, .int .u8 0, .int .u8 0, .int .u8 0, .int .u8 0, .int .u8 0, .int .u8 0, .int .u8 0, .int .u8 0] 34) (.cells #[.int .u8 0, .int .u8 0, .int .u8 0, .int .u8 0, .int .u8 0, .int .u8 0, .int .u8 0, .int .u8 0, .int .u8 0, .int .u8 0, .int .u8 0, .int .u8 0, .int .u8 0, .int .u8 0, .int .u8 0, .int .u8 0, .int .u8 0, .int .u8 0, .int .u8 0, .int .u8 0, .int .u8 0, .int .u8 0, .int .u8 0, .int .u8 0, .int .u8 0, .int .u8 0, .int .u8 0, .int .u8 0, .int .u8 0, .int .u8 0, .int .u8 0, .int .u8 0] 34)
  have hw : Below w.heap.size w ((w.alloc (.cells #[.int .u8 0, .int .u8 0, .int .u8 0, .int .u8 0, .int .u8 0, .int .u8 0, .int .u8 0, .int .u8 0, .int .u8 0, .int .u8 0, .int .u8 0, .int .u8 0, .int .u8 0, .int .u8 0, .int .u8 0, .int .u8 0, .int .u8 0, .int .u8 0, .int .u8 0, .int .u8 0, .int .u8 0, .int .u8 0, .int .u8 0, .int .u8 0, .int .u8 0, .int .u8 0, .int .u8 0, .int .u8 0, .int .u8 0, .int .u8 0, .int .u8 0, .int .u8 0] 34)).alloc (.cells #[.int .u8 0, .int .u8 0, .int .u8 0, .int .u8 0, .int .u8 0, .int .u8 0, .int .u8 0, .int .u8 0, .int .u8 0, .int .u8 0, .int .u8 0, .int .u8 0, .int .u8 0, .int .u8 0, .int .u8 0, .int .u8 0, .int .u8 0, .int .u8 0, .int .u8 0, .int .u8 0, .int .u8 0, .int .u8 0, .int .u8 0, .int .u8 0, .int .u8 0, .int .u8 0, .int .u8 0, .int .u8 0, .int .u8 0, .int .u8 0, .int .u8 0, .int .u8 0] 34)) := ((Below.refl _ _).alloc (Nat.le_refl _) _).alloc (by simp) _
  go_enter Tryd.func65, Tryd.ntmps65
  iterate 14 go_step
  generalize ((w.alloc (.cells #[.int .u8 0, .int .u8 0, .int .u8 0, .int .u8 0, .int .u8 0, .int .u8 0, .int .u8 0, .int .u8 0, .int .u8 0, .int .u8 0, .int .u8 0, .int .u8 0, .int .u8 0, .int .u8 0, .int .u8 0, .int .u8 0, .int .u8 0, .int .u8 0, .int .u8 0, .int .u8 0, .int .u8 0, .int .u8 0, .int .u8 0, .int .u8 0, .int .u8 0, .int .u8 0, .int .u8 0, .int .u8 0, .int .u8 0, .int .u8 0, .int .u8 0, .int .u8 0] 34)).alloc (.cells #[.int .u8 0, .int .u8 0, .int .u8 0, .int .u8 0, .int .u8 0, .int .u8 0, .int .u8 0, .int .u8 0, .int .u8 0, .int .u8 0, .int .u8 0, .int .u8 0, .int .u8 0, .int .u8 0, .int .u8 0, .int .u8 0, .int .u8 0, .int .u8 0, .int .u8 0, .int .u8 0, .int .u8 0, .int .u8 0, .int .u8 0, .int .u8 0, .int .u8 0, .int .u8 0, .int .u8 0, .int .u8 0, .int .u8 0, .int .u8 0, .int .u8 0, .int .u8 0] 34)) = w0 at *
  have c0 : w0.cell? ⟨w.heap.size + 1, 0, none⟩ = some (.int .u8 0) := (cell_of_row _ _ _ _ _ _ r1).trans rfl
  have f0 : w0.frozen? ⟨w.heap.size + 1, 0, none⟩ = false := by simp [World.frozen?, r1]
  have R1 : (w0.setCell ⟨w.heap.size + 1, 0, none⟩ (.int .u8 9)).heap[w.heap.size + 1]? = some (.cells #[.int .u8 9, .int .u8 0, .int .u8 0, .int .u8 0, .int .u8 0, .int .u8 0, .int .u8 0, .int .u8 0, .int .u8 0, .int .u8 0, .int .u8 0, .int .u8 0, .int .u8 0, .int .u8 0, .int .u8 0, .int .u8 0, .int .u8 0, .int .u8 0, .int .u8 0, .int .u8 0, .int .u8 0, .int .u8 0, .int .u8 0, .int .u8 0, .int .u8 0, .int .u8 0, .int .u8 0, .int .u8 0, .int .u8 0, .int .u8 0, .int .u8 0, .int .u8 0] 34 (0, 0)) := heap_setCell_same _ _ _ _ _ _ r1
  have R0 : (w0.setCell ⟨w.heap.size + 1, 0, none⟩ (.int .u8 9)).heap[w.heap.size]? = some (.cells #[.int .u8 0, .int .u8 0, .int .u8 0, .int .u8 0, .int .u8 0, .int .u8 0, .int .u8 0, .int .u8 0, .int .u8 0, .int .u8 0, .int .u8 0, .int .u8 0, .int .u8 0, .int .u8 0, .int .u8 0, .int .u8 0, .int .u8 0, .int .u8 0, .int .u8 0, .int .u8 0, .int .u8 0, .int .u8 0, .int .u8 0, .int .u8 0, .int .u8 0, .int .u8 0, .int .u8 0, .int .u8 0, .int .u8 0, .int .u8 0, .int .u8 0, .int .u8 0] 34 (0, 0)) := (heap_setCell_other _ _ _ _ (by simp)).trans r0
  have hw2 : Below w.heap.size w (w0.setCell ⟨w.heap.size + 1, 0, none⟩ (.int .u8 9)) := hw.setCell (Nat.le_succ _) _
  go_wp2_with (first | (refine wpList_load_want rfl 34 _ rfl (w.heap.size + 1) rfl 34 #[.int .u8 9, .int .u8 0, .int .u8 0, .int .u8 0, .int .u8 0, .int .u8 0, .int .u8 0, .int .u8 0, .int .u8 0, .int .u8 0, .int .u8 0, .int .u8 0, .int .u8 0, .int .u8 0, .int .u8 0, .int .u8 0, .int .u8 0, .int .u8 0, .int .u8 0, .int .u8 0, .int .u8 0, .int .u8 0, .int .u8 0, .int .u8 0, .int .u8 0, .int .u8 0, .int .u8 0, .int .u8 0, .int .u8 0, .int .u8 0, .int .u8 0, .int .u8 0] (0, 0) _ R1 Tryd.underlying34 rfl key_nine.info ?_) | (refine wpList_store_row rfl 34 _ _ rfl (w.heap.size) #[.int .u8 9, .int .u8 0, .int .u8 0, .int .u8 0, .int .u8 0, .int .u8 0, .int .u8 0, .int .u8 0, .int .u8 0, .int .u8 0, .int .u8 0, .int .u8 0, .int .u8 0, .int .u8 0, .int .u8 0, .int .u8 0, .int .u8 0, .int .u8 0, .int .u8 0, .int .u8 0, .int .u8 0, .int .u8 0, .int .u8 0, .int .u8 0, .int .u8 0, .int .u8 0, .int .u8 0, .int .u8 0, .int .u8 0, .int .u8 0, .int .u8 0, .int .u8 0] rfl rfl 34 _ R0 key_nine.info rfl key_nine.one ?_) | fail)
  exact bodyPost_ret (v := .agg #[.int .u8 9, .int .u8 0, .int .u8 0, .int .u8 0, .int .u8 0, .int .u8 0, .int .u8 0, .int .u8 0, .int .u8 0, .int .u8 0, .int .u8 0, .int .u8 0, .int .u8 0, .int .u8 0, .int .u8 0, .int .u8 0, .int .u8 0, .int .u8 0, .int .u8 0, .int .u8 0, .int .u8 0, .int .u8 0, .int .u8 0, .int .u8 0, .int .u8 0, .int .u8 0, .int .u8 0, .int .u8 0, .int .u8 0, .int .u8 0, .int .u8 0, .int .u8 0]) (results_cell_row Tryd.results65 _ _ (w.heap.size) _ #[.int .u8 9, .int .u8 0, .int .u8 0, .int .u8 0, .int .u8 0, .int .u8 0, .int .u8 0, .int .u8 0, .int .u8 0, .int .u8 0, .int .u8 0, .int .u8 0, .int .u8 0, .int .u8 0, .int .u8 0, .int .u8 0, .int .u8 0, .int .u8 0, .int .u8 0, .int .u8 0, .int .u8 0, .int .u8 0, .int .u8 0, .int .u8 0, .int .u8 0, .int .u8 0, .int .u8 0, .int .u8 0, .int .u8 0, .int .u8 0, .int .u8 0, .int .u8 0] _ _ rfl (setRow_heap _ _ _ _ _ _ R0) Tryd.underlying34 rfl key_nine.info) rfl ⟨rfl, below_setRow hw2 (Nat.le_refl _) _⟩


set_option maxRecDepth 100000 in
set_option maxHeartbeats 4000000 in
theorem r_public {k : Array Value} {K : Int} (hk : KeyOf k K) : Gives 22 #[.agg k] (.agg (kb (scl K 9))) := by
  have cA := r_scale hk key_nine
  have c9 := r_nine
  have hY : KeyOf (kb (scl K 9)) (scl K 9) := kb_key _ (scl_bd K 9).1 (scl_bd K 9).2
  have hz := key_zero
  generalize scl K 9 = Y at *
  have h9 := key_nine
  intro w
  go_enter Tryd.func22, Tryd.ntmps22
  go_wp2
  have rp0 : ((w.alloc (.cells k 34)).alloc (.cells #[.int .u8 0, .int .u8 0, .int .u8 0, .int .u8 0, .int .u8 0, .int .u8 0, .int .u8 0, .int .u8 0, .int .u8 0, .int .u8 0, .int .u8 0, .int .u8 0, .int .u8 0, .int .u8 0, .int .u8 0, .int .u8 0, .int .u8 0, .int .u8 0, .int .u8 0, .int .u8 0, .int .u8 0, .int .u8 0, .int .u8 0, .int .u8 0, .int .u8 0, .int .u8 0, .int .u8 0, .int .u8 0, .int .u8 0, .int .u8 0, .int .u8 0, .int .u8 0] 34)).heap[w.heap.size]? = some (.cells k 34 (0, 0)) := hp2_0 w _ _
  have rp1 : ((w.alloc (.cells k 34)).alloc (.cells #[.int .u8 0, .int .u8 0, .int .u8 0, .int .u8 0, .int .u8 0, .int .u8 0, .int .u8 0, .int .u8 0, .int .u8 0, .int .u8 0, .int .u8 0, .int .u8 0, .int .u8 0, .int .u8 0, .int .u8 0, .int .u8 0, .int .u8 0, .int .u8 0, .int .u8 0, .int .u8 0, .int .u8 0, .int .u8 0, .int .u8 0, .int .u8 0, .int .u8 0, .int .u8 0, .int .u8 0, .int .u8 0, .int .u8 0, .int .u8 0, .int .u8 0, .int .u8 0] 34)).heap[w.heap.size + 1]? = some (.cells #[.int .u8 0, .int .u8 0, .int .u8 0, .int .u8 0, .int .u8 0, .int .u8 0, .int .u8 0, .int .u8 0, .int .u8 0, .int .u8 0, .int .u8 0, .int .u8 0, .int .u8 0, .int .u8 0, .int .u8 0, .int .u8 0, .int .u8 0, .int .u8 0, .int .u8 0, .int .u8 0, .int .u8 0, .int .u8 0, .int .u8 0, .int .u8 0, .int .u8 0, .int .u8 0, .int .u8 0, .int .u8 0, .int .u8 0, .int .u8 0, .int .u8 0, .int .u8 0] 34 (0, 0)) := hp2_1 w _ _
  have hw : Below w.heap.size w ((w.alloc (.cells k 34)).alloc (.cells #[.int .u8 0, .int .u8 0, .int .u8 0, .int .u8 0, .int .u8 0, .int .u8 0, .int .u8 0, .int .u8 0, .int .u8 0, .int .u8 0, .int .u8 0, .int .u8 0, .int .u8 0, .int .u8 0, .int .u8 0, .int .u8 0, .int .u8 0, .int .u8 0, .int .u8 0, .int .u8 0, .int .u8 0, .int .u8 0, .int .u8 0, .int .u8 0, .int .u8 0, .int .u8 0, .int .u8 0, .int .u8 0, .int .u8 0, .int .u8 0, .int .u8 0, .int .u8 0] 34)) := (((Below.refl _ _).alloc (Nat.le_refl _) _).alloc (by simp) _)
  generalize ((w.alloc (.cells k 34)).alloc (.cells #[.int .u8 0, .int .u8 0, .int .u8 0, .int .u8 0, .int .u8 0, .int .u8 0, .int .u8 0, .int .u8 0, .int .u8 0, .int .u8 0, .int .u8 0, .int .u8 0, .int .u8 0, .int .u8 0, .int .u8 0, .int .u8 0, .int .u8 0, .int .u8 0, .int .u8 0, .int .u8 0, .int .u8 0, .int .u8 0, .int .u8 0, .int .u8 0, .int .u8 0, .int .u8 0, .int .u8 0, .int .u8 0, .int .u8 0, .int .u8 0, .int .u8 0, .int .u8 0] 34)) = w0 at *
  have Hrp0 := keepr rp0
  have Hrp1 := keepr rp1
  refine wp_region_tail (C := fun w' => ∃ p : Regrown, w' = grow (redrawn w0 p.d) p.os) 3 _ rfl rfl rfl (by kernel_rfl) (by kernel_rfl) (by kernel_rfl) (by kernel_rfl) ⟨⟨w0.drawn + 1, #[]⟩, by rw [grow_empty]; rfl⟩ ?_
  dsimp only [List.set, idle]
  refine wpQuiet_load_row rfl 34 _ rfl (w.heap.size) rfl 34 k (0, 0) _ Hrp0.out Tryd.underlying34 rfl hk.info ?_
  simp only [Act.put, List.setIfInBounds_toArray, List.set_cons_succ, List.set_cons_zero]
  go_big_quiet_step (exact c9.re)
  go_big_quiet_step (exact cA.re)
  refine wpQuiet_idle rfl rfl rfl ?_
  rintro _ ⟨p, rfl⟩
  have hb := below_regrown w0 p.d p.os
  generalize grow (redrawn w0 p.d) p.os = w3 at *
  replace rp0 := keep hb rp0
  replace rp1 := keep hb rp1
  replace hw := Below.after hw hb
  clear hb
  clear Hrp0 Hrp1
  go_wp2_with (first | (refine wpList_store_row rfl 34 _ _ rfl (w.heap.size + 1) (kb Y) rfl rfl 34 _ rp1 hY.info (hz.size.trans hY.size.symm) hY.one ?_) | fail)
  exact bodyPost_ret (v := .agg (kb Y)) (results_cell_row Tryd.results22 _ _ (w.heap.size + 1) _ (kb Y) _ _ rfl (setRow_heap _ _ _ _ _ _ rp1) Tryd.underlying34 rfl hY.info) rfl ⟨rfl, below_setRow hw (by omega) _⟩

end Go.Proofs.YtkogejglfgghmaaDoor


namespace Go.Proofs.YtkogejglfgghmaaDoor
open Go.RowKit Go.Sort
attribute [local go_sem] setCell_drewN alloc_drewN


/-- Two keys in one row. -/
def pairC (N : Int) : Array Value := ((kb (clp N)).toList ++ (kb (scl N 9)).toList).toArray
def pairV (bs : List Int) : Array Value := if bs.length = 32 then pairC (valB bs) else #[.int .u8 0, .int .u8 0, .int .u8 0, .int .u8 0, .int .u8 0, .int .u8 0, .int .u8 0, .int .u8 0, .int .u8 0, .int .u8 0, .int .u8 0, .int .u8 0, .int .u8 0, .int .u8 0, .int .u8 0, .int .u8 0, .int .u8 0, .int .u8 0, .int .u8 0, .int .u8 0, .int .u8 0, .int .u8 0, .int .u8 0, .int .u8 0, .int .u8 0, .int .u8 0, .int .u8 0, .int .u8 0, .int .u8 0, .int .u8 0, .int .u8 0, .int .u8 0, .int .u8 0, .int .u8 0, .int .u8 0, .int .u8 0, .int .u8 0, .int .u8 0, .int .u8 0, .int .u8 0, .int .u8 0, .int .u8 0, .int .u8 0, .int .u8 0, .int .u8 0, .int .u8 0, .int .u8 0, .int .u8 0, .int .u8 0, .int .u8 0, .int .u8 0, .int .u8 0, .int .u8 0, .int .u8 0, .int .u8 0, .int .u8 0, .int .u8 0, .int .u8 0, .int .u8 0, .int .u8 0, .int .u8 0, .int .u8 0, .int .u8 0, .int .u8 0]
def pairE (bs : List Int) : Int := if bs.length = 32 then 0 else 3
theorem pairC_size (N : Int) : (pairC N).size = 64 := rfl
theorem pairC_one (N : Int) : (pairC N).all (·.oneCell') = true := by kernel_rfl
theorem pair_info : (Tryd.prog.info? 58).map (·.size) = some 64 := by kernel_rfl
theorem pair_built0 : Tryd.prog.built 58 [] = some #[.int .u8 0, .int .u8 0, .int .u8 0, .int .u8 0, .int .u8 0, .int .u8 0, .int .u8 0, .int .u8 0, .int .u8 0, .int .u8 0, .int .u8 0, .int .u8 0, .int .u8 0, .int .u8 0, .int .u8 0, .int .u8 0, .int .u8 0, .int .u8 0, .int .u8 0, .int .u8 0, .int .u8 0, .int .u8 0, .int .u8 0, .int .u8 0, .int .u8 0, .int .u8 0, .int .u8 0, .int .u8 0, .int .u8 0, .int .u8 0, .int .u8 0, .int .u8 0, .int .u8 0, .int .u8 0, .int .u8 0, .int .u8 0, .int .u8 0, .int .u8 0, .int .u8 0, .int .u8 0, .int .u8 0, .int .u8 0, .int .u8 0, .int .u8 0, .int .u8 0, .int .u8 0, .int .u8 0, .int .u8 0, .int .u8 0, .int .u8 0, .int .u8 0, .int .u8 0, .int .u8 0, .int .u8 0, .int .u8 0, .int .u8 0, .int .u8 0, .int .u8 0, .int .u8 0, .int .u8 0, .int .u8 0, .int .u8 0, .int .u8 0, .int .u8 0] := by kernel_rfl
theorem pair_built (A B : Int) : Tryd.prog.built 58 [(0, .agg (kb A)), (1, .agg (kb B))] = some ((kb A).toList ++ (kb B).toList).toArray := by kernel_rfl
theorem brow_key (bs : List Int) (hl : bs.length = 32) (hz : ∀ z ∈ bs, 0 ≤ z ∧ z < 256) : KeyOf (brow bs) (valB bs) := by
  obtain ⟨b0, b1, b2, b3, b4, b5, b6, b7, b8, b9, b10, b11, b12, b13, b14, b15, b16, b17, b18, b19, b20, b21, b22, b23, b24, b25, b26, b27, b28, b29, b30, b31, rfl⟩ := list32 bs hl
  exact ⟨b0, b1, b2, b3, b4, b5, b6, b7, b8, b9, b10, b11, b12, b13, b14, b15, b16, b17, b18, b19, b20, b21, b22, b23, b24, b25, b26, b27, b28, b29, b30, b31, rfl, ⟨hz b0 (by simp), hz b1 (by simp), hz b2 (by simp), hz b3 (by simp), hz b4 (by simp), hz b5 (by simp), hz b6 (by simp), hz b7 (by simp), hz b8 (by simp), hz b9 (by simp), hz b10 (by simp), hz b11 (by simp), hz b12 (by simp), hz b13 (by simp), hz b14 (by simp), hz b15 (by simp), hz b16 (by simp), hz b17 (by simp), hz b18 (by simp), hz b19 (by simp), hz b20 (by simp), hz b21 (by simp), hz b22 (by simp), hz b23 (by simp), hz b24 (by simp), hz b25 (by simp), hz b26 (by simp), hz b27 (by simp), hz b28 (by simp), hz b29 (by simp), hz b30 (by simp), hz b31 (by simp)⟩, rfl⟩
theorem addr_add' (b off j : Nat) : (⟨b, off, none⟩ : Addr).add j = ⟨b, off + j, none⟩ := by
  unfold Addr.add
  split
  · rename_i h; rw [h]; rfl
  · rfl
theorem wp_build_as {P : Program} {o : Oper} {a : Act} {w : World} {K : Act → World → Prop} {Q : Exit → Act → World → Prop} (t : TypeId) (parts : Array (Nat × Operand)) (ho : o.op = .build t parts)
    (vals : List (Nat × Value)) (hv : parts.toList.map (fun (i, x) => (i, a.eval x)) = vals) (cells : Array Value) (hb : P.built t vals = some cells) (h : K (a.put o.dst (.agg cells)) w) : o.wp P a w K Q := by
  rw [← Array.toList_map] at hv
  subst hv
  refine wp_build t parts ho (by rw [hb]; rfl) ?_
  rw [hb]
  exact h
theorem tb1 (w : World) (A B C : Array Value) (T U : TypeId) : (((w.alloc (.cells A T)).alloc (.cells B U)).setRow (w.heap.size + 1) C).heap[w.heap.size + 1]? = some (.cells C U (0, 0)) := setRow_heap _ _ _ _ _ _ (hp2_1 w _ _)
theorem tb0 (w : World) (A B C : Array Value) (T U : TypeId) : (((w.alloc (.cells A T)).alloc (.cells B U)).setRow (w.heap.size + 1) C).heap[w.heap.size]? = some (.cells A T (0, 0)) := (setRow_other _ _ _ _ (by omega)).trans (hp2_0 w _ _)
theorem tbB (w : World) (A B C : Array Value) (T U : TypeId) : Below w.heap.size w (((w.alloc (.cells A T)).alloc (.cells B U)).setRow (w.heap.size + 1) C) := below_setRow (((Below.refl _ _).alloc (Nat.le_refl _) _).alloc (by simp) _) (by omega) _
theorem tbF {w : World} (hF : Four w) (A B C : Array Value) (T U : TypeId) : Four (((w.alloc (.cells A T)).alloc (.cells B U)).setRow (w.heap.size + 1) C) := ((hF.alloc _).alloc _).setRow (by omega) _
set_option maxRecDepth 100000 in
set_option maxHeartbeats 8000000 in
theorem a_pair (bs : List Int) (hz : ∀ z ∈ bs, 0 ≤ z ∧ z < 256) (w : World) (v : Value) (hF : Four w) (hB : Bys w v bs) :
    Calls Tryd.prog 25 #[v] w fun e w' => e = .returned (.tuple #[.agg (pairV bs), .int .i64 (pairE bs)]) ∧ Below w.heap.size w w' := by
  obtain ⟨ao, cap, rfl, hl, hc, _⟩ := hB
  have r0 := hp1_0 w (.cells #[.int .u8 0, .int .u8 0, .int .u8 0, .int .u8 0, .int .u8 0, .int .u8 0, .int .u8 0, .int .u8 0, .int .u8 0, .int .u8 0, .int .u8 0, .int .u8 0, .int .u8 0, .int .u8 0, .int .u8 0, .int .u8 0, .int .u8 0, .int .u8 0, .int .u8 0, .int .u8 0, .int .u8 0, .int .u8 0, .int .u8 0, .int .u8 0, .int .u8 0, .int .u8 0, .int .u8 0, .int .u8 0, .int .u8 0, .int .u8 0, .int .u8 0, .int .u8 0, .int .u8 0, .int .u8 0, .int .u8 0, .int .u8 0, .int .u8 0, .int .u8 0, .int .u8 0, .int .u8 0, .int .u8 0, .int .u8 0, .int .u8 0, .int .u8 0, .int .u8 0, .int .u8 0, .int .u8 0, .int .u8 0, .int .u8 0, .int .u8 0, .int .u8 0, .int .u8 0, .int .u8 0, .int .u8 0, .int .u8 0, .int .u8 0, .int .u8 0, .int .u8 0, .int .u8 0, .int .u8 0, .int .u8 0, .int .u8 0, .int .u8 0, .int .u8 0] 58)
  have hw : Below w.heap.size w (w.alloc (.cells #[.int .u8 0, .int .u8 0, .int .u8 0, .int .u8 0, .int .u8 0, .int .u8 0, .int .u8 0, .int .u8 0, .int .u8 0, .int .u8 0, .int .u8 0, .int .u8 0, .int .u8 0, .int .u8 0, .int .u8 0, .int .u8 0, .int .u8 0, .int .u8 0, .int .u8 0, .int .u8 0, .int .u8 0, .int .u8 0, .int .u8 0, .int .u8 0, .int .u8 0, .int .u8 0, .int .u8 0, .int .u8 0, .int .u8 0, .int .u8 0, .int .u8 0, .int .u8 0, .int .u8 0, .int .u8 0, .int .u8 0, .int .u8 0, .int .u8 0, .int .u8 0, .int .u8 0, .int .u8 0, .int .u8 0, .int .u8 0, .int .u8 0, .int .u8 0, .int .u8 0, .int .u8 0, .int .u8 0, .int .u8 0, .int .u8 0, .int .u8 0, .int .u8 0, .int .u8 0, .int .u8 0, .int .u8 0, .int .u8 0, .int .u8 0, .int .u8 0, .int .u8 0, .int .u8 0, .int .u8 0, .int .u8 0, .int .u8 0, .int .u8 0, .int .u8 0] 58)) := (Below.refl _ _).alloc (Nat.le_refl _) _
  by_cases h32 : bs.length = 32
  · rw [show pairV bs = pairC (valB bs) from if_pos h32, show pairE bs = 0 from if_pos h32]
    have hk := brow_key bs h32 hz
    obtain ⟨bb, off, rfl, hbb, _⟩ := hc 0 (by omega)
    have hsrc : ∀ j u, (bs.map (Value.int .u8))[j]? = some u → w.cell? ((⟨bb, off, none⟩ : Addr).add j) = some u := by
      intro j u hu
      have hj : j < bs.length := by have := (List.getElem?_eq_some_iff.1 hu).1; simpa using this
      obtain ⟨b', off', e', _, hcl⟩ := hc j hj
      cases e'
      have : u = .int .u8 (bs.getD j 0) := by
        simp only [List.getElem?_map, List.getElem?_eq_getElem hj, Option.map_some, Option.some.injEq] at hu
        rw [← hu, List.getD_eq_getElem?_getD, List.getElem?_eq_getElem hj]; rfl
      rw [this, addr_add']
      exact hcl
    rw [h32]
    have hsrc' : ∀ j u, (bs.map (Value.int .u8))[j]? = some u → ((w.alloc (.cells #[.int .u8 0, .int .u8 0, .int .u8 0, .int .u8 0, .int .u8 0, .int .u8 0, .int .u8 0, .int .u8 0, .int .u8 0, .int .u8 0, .int .u8 0, .int .u8 0, .int .u8 0, .int .u8 0, .int .u8 0, .int .u8 0, .int .u8 0, .int .u8 0, .int .u8 0, .int .u8 0, .int .u8 0, .int .u8 0, .int .u8 0, .int .u8 0, .int .u8 0, .int .u8 0, .int .u8 0, .int .u8 0, .int .u8 0, .int .u8 0, .int .u8 0, .int .u8 0, .int .u8 0, .int .u8 0, .int .u8 0, .int .u8 0, .int .u8 0, .int .u8 0, .int .u8 0, .int .u8 0, .int .u8 0, .int .u8 0, .int .u8 0, .int .u8 0, .int .u8 0, .int .u8 0, .int .u8 0, .int .u8 0, .int .u8 0, .int .u8 0, .int .u8 0, .int .u8 0, .int .u8 0, .int .u8 0, .int .u8 0, .int .u8 0, .int .u8 0, .int .u8 0, .int .u8 0, .int .u8 0, .int .u8 0, .int .u8 0, .int .u8 0, .int .u8 0] 58)).alloc (.cells #[.int .u8 0, .int .u8 0, .int .u8 0, .int .u8 0, .int .u8 0, .int .u8 0, .int .u8 0, .int .u8 0, .int .u8 0, .int .u8 0, .int .u8 0, .int .u8 0, .int .u8 0, .int .u8 0, .int .u8 0, .int .u8 0, .int .u8 0, .int .u8 0, .int .u8 0, .int .u8 0, .int .u8 0, .int .u8 0, .int .u8 0, .int .u8 0, .int .u8 0, .int .u8 0, .int .u8 0, .int .u8 0, .int .u8 0, .int .u8 0, .int .u8 0, .int .u8 0] 34)).cell? ((⟨bb, off, none⟩ : Addr).add j) = some u := by
      intro j u hu
      have h1 := hsrc j u hu
      rw [addr_add'] at h1 ⊢
      exact ((((Below.refl w.heap.size w).alloc (Nat.le_refl _) _).alloc (by simp) _).cell hbb).trans h1
    have ints_one' : ∀ u ∈ bs.map (Value.int .u8), u.oneCell' = true := by
      intro u hu
      obtain ⟨z, _, rfl⟩ := List.mem_map.1 hu
      rfl
    have hrow : (((#[.int .u8 0, .int .u8 0, .int .u8 0, .int .u8 0, .int .u8 0, .int .u8 0, .int .u8 0, .int .u8 0, .int .u8 0, .int .u8 0, .int .u8 0, .int .u8 0, .int .u8 0, .int .u8 0, .int .u8 0, .int .u8 0, .int .u8 0, .int .u8 0, .int .u8 0, .int .u8 0, .int .u8 0, .int .u8 0, .int .u8 0, .int .u8 0, .int .u8 0, .int .u8 0, .int .u8 0, .int .u8 0, .int .u8 0, .int .u8 0, .int .u8 0, .int .u8 0] : Array Value).toList.take 0 ++ (bs.map (Value.int .u8) ++ (#[.int .u8 0, .int .u8 0, .int .u8 0, .int .u8 0, .int .u8 0, .int .u8 0, .int .u8 0, .int .u8 0, .int .u8 0, .int .u8 0, .int .u8 0, .int .u8 0, .int .u8 0, .int .u8 0, .int .u8 0, .int .u8 0, .int .u8 0, .int .u8 0, .int .u8 0, .int .u8 0, .int .u8 0, .int .u8 0, .int .u8 0, .int .u8 0, .int .u8 0, .int .u8 0, .int .u8 0, .int .u8 0, .int .u8 0, .int .u8 0, .int .u8 0, .int .u8 0] : Array Value).toList.drop (0 + (bs.map (Value.int .u8)).length))).toArray) = brow bs := by
      rw [List.length_map, h32]; simp [brow]
    have cC := a_clamp hk
    have cP := a_public hk
    have hS : KeyOf (kb (clp (valB bs))) (clp (valB bs)) := kb_key _ (clp_bd _).1 (Int.lt_trans (clp_bd _).2 (by decide))
    have hY : KeyOf (kb (scl (valB bs) 9)) (scl (valB bs) 9) := kb_key _ (scl_bd _ _).1 (scl_bd _ _).2
    have hPi : (Tryd.prog.info? 58).map (·.size) = some (pairC (valB bs)).size := pair_info
    have hPo := pairC_one (valB bs)
    have hPs := pairC_size (valB bs)
    have pair_built := pair_built
    have ePC : pairC (valB bs) = ((kb (clp (valB bs))).toList ++ (kb (scl (valB bs) 9)).toList).toArray := rfl
    generalize pairC (valB bs) = PC at *
    generalize clp (valB bs) = S at *
    generalize scl (valB bs) 9 = Y at *
    replace pair_built := pair_built S Y
    rw [← ePC] at pair_built
    clear ePC
    go_enter Tryd.func25, Tryd.ntmps25
    iterate 47 go_step
    refine wpList_copy_own rfl (.tmp 9) (.tmp 10) 32 32 rfl 5 Tryd.underlying32 (by kernel_rfl) (w.heap.size + 1) 0 32 32 ⟨bb, off, none⟩ 32 cap rfl rfl #[.int .u8 0, .int .u8 0, .int .u8 0, .int .u8 0, .int .u8 0, .int .u8 0, .int .u8 0, .int .u8 0, .int .u8 0, .int .u8 0, .int .u8 0, .int .u8 0, .int .u8 0, .int .u8 0, .int .u8 0, .int .u8 0, .int .u8 0, .int .u8 0, .int .u8 0, .int .u8 0, .int .u8 0, .int .u8 0, .int .u8 0, .int .u8 0, .int .u8 0, .int .u8 0, .int .u8 0, .int .u8 0, .int .u8 0, .int .u8 0, .int .u8 0, .int .u8 0] 34 (hp2_1 w _ _) (bs.map (Value.int .u8)) (by rw [List.length_map, h32]; rfl) hsrc' (by rw [List.length_map, h32]; decide) ints_one' ?_
    rw [hrow]
    have r1 := tb1 w #[.int .u8 0, .int .u8 0, .int .u8 0, .int .u8 0, .int .u8 0, .int .u8 0, .int .u8 0, .int .u8 0, .int .u8 0, .int .u8 0, .int .u8 0, .int .u8 0, .int .u8 0, .int .u8 0, .int .u8 0, .int .u8 0, .int .u8 0, .int .u8 0, .int .u8 0, .int .u8 0, .int .u8 0, .int .u8 0, .int .u8 0, .int .u8 0, .int .u8 0, .int .u8 0, .int .u8 0, .int .u8 0, .int .u8 0, .int .u8 0, .int .u8 0, .int .u8 0, .int .u8 0, .int .u8 0, .int .u8 0, .int .u8 0, .int .u8 0, .int .u8 0, .int .u8 0, .int .u8 0, .int .u8 0, .int .u8 0, .int .u8 0, .int .u8 0, .int .u8 0, .int .u8 0, .int .u8 0, .int .u8 0, .int .u8 0, .int .u8 0, .int .u8 0, .int .u8 0, .int .u8 0, .int .u8 0, .int .u8 0, .int .u8 0, .int .u8 0, .int .u8 0, .int .u8 0, .int .u8 0, .int .u8 0, .int .u8 0, .int .u8 0, .int .u8 0] #[.int .u8 0, .int .u8 0, .int .u8 0, .int .u8 0, .int .u8 0, .int .u8 0, .int .u8 0, .int .u8 0, .int .u8 0, .int .u8 0, .int .u8 0, .int .u8 0, .int .u8 0, .int .u8 0, .int .u8 0, .int .u8 0, .int .u8 0, .int .u8 0, .int .u8 0, .int .u8 0, .int .u8 0, .int .u8 0, .int .u8 0, .int .u8 0, .int .u8 0, .int .u8 0, .int .u8 0, .int .u8 0, .int .u8 0, .int .u8 0, .int .u8 0, .int .u8 0] (brow bs) 58 34
    replace r0 := tb0 w #[.int .u8 0, .int .u8 0, .int .u8 0, .int .u8 0, .int .u8 0, .int .u8 0, .int .u8 0, .int .u8 0, .int .u8 0, .int .u8 0, .int .u8 0, .int .u8 0, .int .u8 0, .int .u8 0, .int .u8 0, .int .u8 0, .int .u8 0, .int .u8 0, .int .u8 0, .int .u8 0, .int .u8 0, .int .u8 0, .int .u8 0, .int .u8 0, .int .u8 0, .int .u8 0, .int .u8 0, .int .u8 0, .int .u8 0, .int .u8 0, .int .u8 0, .int .u8 0, .int .u8 0, .int .u8 0, .int .u8 0, .int .u8 0, .int .u8 0, .int .u8 0, .int .u8 0, .int .u8 0, .int .u8 0, .int .u8 0, .int .u8 0, .int .u8 0, .int .u8 0, .int .u8 0, .int .u8 0, .int .u8 0, .int .u8 0, .int .u8 0, .int .u8 0, .int .u8 0, .int .u8 0, .int .u8 0, .int .u8 0, .int .u8 0, .int .u8 0, .int .u8 0, .int .u8 0, .int .u8 0, .int .u8 0, .int .u8 0, .int .u8 0, .int .u8 0] #[.int .u8 0, .int .u8 0, .int .u8 0, .int .u8 0, .int .u8 0, .int .u8 0, .int .u8 0, .int .u8 0, .int .u8 0, .int .u8 0, .int .u8 0, .int .u8 0, .int .u8 0, .int .u8 0, .int .u8 0, .int .u8 0, .int .u8 0, .int .u8 0, .int .u8 0, .int .u8 0, .int .u8 0, .int .u8 0, .int .u8 0, .int .u8 0, .int .u8 0, .int .u8 0, .int .u8 0, .int .u8 0, .int .u8 0, .int .u8 0, .int .u8 0, .int .u8 0] (brow bs) 58 34
    replace hw := tbB w #[.int .u8 0, .int .u8 0, .int .u8 0, .int .u8 0, .int .u8 0, .int .u8 0, .int .u8 0, .int .u8 0, .int .u8 0, .int .u8 0, .int .u8 0, .int .u8 0, .int .u8 0, .int .u8 0, .int .u8 0, .int .u8 0, .int .u8 0, .int .u8 0, .int .u8 0, .int .u8 0, .int .u8 0, .int .u8 0, .int .u8 0, .int .u8 0, .int .u8 0, .int .u8 0, .int .u8 0, .int .u8 0, .int .u8 0, .int .u8 0, .int .u8 0, .int .u8 0, .int .u8 0, .int .u8 0, .int .u8 0, .int .u8 0, .int .u8 0, .int .u8 0, .int .u8 0, .int .u8 0, .int .u8 0, .int .u8 0, .int .u8 0, .int .u8 0, .int .u8 0, .int .u8 0, .int .u8 0, .int .u8 0, .int .u8 0, .int .u8 0, .int .u8 0, .int .u8 0, .int .u8 0, .int .u8 0, .int .u8 0, .int .u8 0, .int .u8 0, .int .u8 0, .int .u8 0, .int .u8 0, .int .u8 0, .int .u8 0, .int .u8 0, .int .u8 0] #[.int .u8 0, .int .u8 0, .int .u8 0, .int .u8 0, .int .u8 0, .int .u8 0, .int .u8 0, .int .u8 0, .int .u8 0, .int .u8 0, .int .u8 0, .int .u8 0, .int .u8 0, .int .u8 0, .int .u8 0, .int .u8 0, .int .u8 0, .int .u8 0, .int .u8 0, .int .u8 0, .int .u8 0, .int .u8 0, .int .u8 0, .int .u8 0, .int .u8 0, .int .u8 0, .int .u8 0, .int .u8 0, .int .u8 0, .int .u8 0, .int .u8 0, .int .u8 0] (brow bs) 58 34
    have f4 := tbF hF #[.int .u8 0, .int .u8 0, .int .u8 0, .int .u8 0, .int .u8 0, .int .u8 0, .int .u8 0, .int .u8 0, .int .u8 0, .int .u8 0, .int .u8 0, .int .u8 0, .int .u8 0, .int .u8 0, .int .u8 0, .int .u8 0, .int .u8 0, .int .u8 0, .int .u8 0, .int .u8 0, .int .u8 0, .int .u8 0, .int .u8 0, .int .u8 0, .int .u8 0, .int .u8 0, .int .u8 0, .int .u8 0, .int .u8 0, .int .u8 0, .int .u8 0, .int .u8 0, .int .u8 0, .int .u8 0, .int .u8 0, .int .u8 0, .int .u8 0, .int .u8 0, .int .u8 0, .int .u8 0, .int .u8 0, .int .u8 0, .int .u8 0, .int .u8 0, .int .u8 0, .int .u8 0, .int .u8 0, .int .u8 0, .int .u8 0, .int .u8 0, .int .u8 0, .int .u8 0, .int .u8 0, .int .u8 0, .int .u8 0, .int .u8 0, .int .u8 0, .int .u8 0, .int .u8 0, .int .u8 0, .int .u8 0, .int .u8 0, .int .u8 0, .int .u8 0] #[.int .u8 0, .int .u8 0, .int .u8 0, .int .u8 0, .int .u8 0, .int .u8 0, .int .u8 0, .int .u8 0, .int .u8 0, .int .u8 0, .int .u8 0, .int .u8 0, .int .u8 0, .int .u8 0, .int .u8 0, .int .u8 0, .int .u8 0, .int .u8 0, .int .u8 0, .int .u8 0, .int .u8 0, .int .u8 0, .int .u8 0, .int .u8 0, .int .u8 0, .int .u8 0, .int .u8 0, .int .u8 0, .int .u8 0, .int .u8 0, .int .u8 0, .int .u8 0] (brow bs) 58 34
    have hz0 := hF.1
    generalize (((w.alloc (.cells #[.int .u8 0, .int .u8 0, .int .u8 0, .int .u8 0, .int .u8 0, .int .u8 0, .int .u8 0, .int .u8 0, .int .u8 0, .int .u8 0, .int .u8 0, .int .u8 0, .int .u8 0, .int .u8 0, .int .u8 0, .int .u8 0, .int .u8 0, .int .u8 0, .int .u8 0, .int .u8 0, .int .u8 0, .int .u8 0, .int .u8 0, .int .u8 0, .int .u8 0, .int .u8 0, .int .u8 0, .int .u8 0, .int .u8 0, .int .u8 0, .int .u8 0, .int .u8 0, .int .u8 0, .int .u8 0, .int .u8 0, .int .u8 0, .int .u8 0, .int .u8 0, .int .u8 0, .int .u8 0, .int .u8 0, .int .u8 0, .int .u8 0, .int .u8 0, .int .u8 0, .int .u8 0, .int .u8 0, .int .u8 0, .int .u8 0, .int .u8 0, .int .u8 0, .int .u8 0, .int .u8 0, .int .u8 0, .int .u8 0, .int .u8 0, .int .u8 0, .int .u8 0, .int .u8 0, .int .u8 0, .int .u8 0, .int .u8 0, .int .u8 0, .int .u8 0] 58)).alloc (.cells #[.int .u8 0, .int .u8 0, .int .u8 0, .int .u8 0, .int .u8 0, .int .u8 0, .int .u8 0, .int .u8 0, .int .u8 0, .int .u8 0, .int .u8 0, .int .u8 0, .int .u8 0, .int .u8 0, .int .u8 0, .int .u8 0, .int .u8 0, .int .u8 0, .int .u8 0, .int .u8 0, .int .u8 0, .int .u8 0, .int .u8 0, .int .u8 0, .int .u8 0, .int .u8 0, .int .u8 0, .int .u8 0, .int .u8 0, .int .u8 0, .int .u8 0, .int .u8 0] 34)).setRow (w.heap.size + 1) (brow bs)) = w2 at *
    clear hrow hsrc' ints_one' hsrc
    go_wp2_with (first | fail)
    refine wp_region_any (by kernel_rfl) ?_
    have hb : Below w2.heap.size w2 { w2 with drawn := w2.drawn + 1 } := ⟨rfl, rfl, rfl, Nat.le_refl _, fun _ _ => rfl⟩
    generalize ({ w2 with drawn := w2.drawn + 1 } : World) = w1 at *
    replace r0 := keep hb r0
    replace r1 := keep hb r1
    replace hw := Below.after hw hb
    replace f4 := f4.below hb
    clear hb
    apply cut_at 3 #[true, true, true, true, false, false, false] (fun W => W.heap[w.heap.size]? = some (.cells #[.int .u8 0, .int .u8 0, .int .u8 0, .int .u8 0, .int .u8 0, .int .u8 0, .int .u8 0, .int .u8 0, .int .u8 0, .int .u8 0, .int .u8 0, .int .u8 0, .int .u8 0, .int .u8 0, .int .u8 0, .int .u8 0, .int .u8 0, .int .u8 0, .int .u8 0, .int .u8 0, .int .u8 0, .int .u8 0, .int .u8 0, .int .u8 0, .int .u8 0, .int .u8 0, .int .u8 0, .int .u8 0, .int .u8 0, .int .u8 0, .int .u8 0, .int .u8 0, .int .u8 0, .int .u8 0, .int .u8 0, .int .u8 0, .int .u8 0, .int .u8 0, .int .u8 0, .int .u8 0, .int .u8 0, .int .u8 0, .int .u8 0, .int .u8 0, .int .u8 0, .int .u8 0, .int .u8 0, .int .u8 0, .int .u8 0, .int .u8 0, .int .u8 0, .int .u8 0, .int .u8 0, .int .u8 0, .int .u8 0, .int .u8 0, .int .u8 0, .int .u8 0, .int .u8 0, .int .u8 0, .int .u8 0, .int .u8 0, .int .u8 0, .int .u8 0] 58 (0, 0)) ∧ W.heap[w.heap.size + 1]? = some (.cells (brow bs) 34 (0, 0)) ∧ Below w.heap.size w W ∧ Four W)
    · intro key
      refine wpAny_ready (rs := [0, 2]) (fuel := 6) (by kernel_rfl) (by simp) (AllReady.cons rfl (fun K' hK => ?_) (AllReady.cons rfl (fun K' hK => ?_) AllReady.nil))
      · skip
        rw [if_pos (by kernel_rfl)]
        simp only [List.getElem_toArray, List.getElem_cons_zero]
        refine wp_load_row 34 _ rfl (w.heap.size + 1) rfl 34 (brow bs) (0, 0) _ r1 Tryd.underlying34 rfl hk.info (hK _ _ ?_)
        simp only [Act.put, List.setIfInBounds_toArray, List.set_cons_succ, List.set_cons_zero]
        clear hK
        refine wpAny_ready (rs := [1, 2]) (fuel := 5) (by kernel_rfl) (by simp) (AllReady.cons rfl (fun K' hK => ?_) (AllReady.cons rfl (fun K' hK => ?_) AllReady.nil))
        · skip
          rw [if_pos (by kernel_rfl)]
          simp only [List.getElem_toArray, List.getElem_cons_succ, List.getElem_cons_zero]
          refine wp_call_op (f := 58) (args := #[.agg (brow bs)]) (by kernel_rfl) (cC.at _) (fun w2 hb => hK _ _ ?_)
          simp only [Act.put, List.setIfInBounds_toArray, List.set_cons_succ, List.set_cons_zero]
          clear hK
          replace r0 := keep hb r0
          replace r1 := keep hb r1
          replace hw := Below.after hw hb
          replace f4 := f4.below hb
          clear hb
          refine wpAny_ready (rs := [2]) (fuel := 4) (by kernel_rfl) (by simp) (AllReady.cons rfl (fun K' hK => ?_) AllReady.nil)
          rw [if_pos (by kernel_rfl)]
          simp only [List.getElem_toArray, List.getElem_cons_succ, List.getElem_cons_zero]
          refine wp_load_row 34 _ rfl (w.heap.size + 1) rfl 34 (brow bs) (0, 0) _ r1 Tryd.underlying34 rfl hk.info (hK _ _ ?_)
          simp only [Act.put, List.setIfInBounds_toArray, List.set_cons_succ, List.set_cons_zero]
          clear hK
          refine wpAny_ready (rs := [3]) (fuel := 3) (by kernel_rfl) (by simp) (AllReady.cons rfl (fun K' hK => ?_) AllReady.nil)
          rw [if_pos (by kernel_rfl)]
          simp only [List.getElem_toArray, List.getElem_cons_succ, List.getElem_cons_zero]
          refine wp_call_op (f := 21) (args := #[.agg (brow bs)]) (by kernel_rfl) (cP.at f4) (fun w4 hb => hK _ _ ?_)
          simp only [Act.put, List.setIfInBounds_toArray, List.set_cons_succ, List.set_cons_zero]
          clear hK
          replace r0 := keep hb r0
          replace r1 := keep hb r1
          replace hw := Below.after hw hb
          replace f4 := f4.below hb
          clear hb
          exact cut_to (key _ ⟨r0, r1, hw, f4⟩) (by kernel_rfl)
        · skip
          rw [if_pos (by kernel_rfl)]
          simp only [List.getElem_toArray, List.getElem_cons_succ, List.getElem_cons_zero]
          refine wp_load_row 34 _ rfl (w.heap.size + 1) rfl 34 (brow bs) (0, 0) _ r1 Tryd.underlying34 rfl hk.info (hK _ _ ?_)
          simp only [Act.put, List.setIfInBounds_toArray, List.set_cons_succ, List.set_cons_zero]
          clear hK
          refine wpAny_ready (rs := [1]) (fuel := 4) (by kernel_rfl) (by simp) (AllReady.cons rfl (fun K' hK => ?_) AllReady.nil)
          rw [if_pos (by kernel_rfl)]
          simp only [List.getElem_toArray, List.getElem_cons_succ, List.getElem_cons_zero]
          refine wp_call_op (f := 58) (args := #[.agg (brow bs)]) (by kernel_rfl) (cC.at _) (fun w6 hb => hK _ _ ?_)
          simp only [Act.put, List.setIfInBounds_toArray, List.set_cons_succ, List.set_cons_zero]
          clear hK
          replace r0 := keep hb r0
          replace r1 := keep hb r1
          replace hw := Below.after hw hb
          replace f4 := f4.below hb
          clear hb
          refine wpAny_ready (rs := [3]) (fuel := 3) (by kernel_rfl) (by simp) (AllReady.cons rfl (fun K' hK => ?_) AllReady.nil)
          rw [if_pos (by kernel_rfl)]
          simp only [List.getElem_toArray, List.getElem_cons_succ, List.getElem_cons_zero]
          refine wp_call_op (f := 21) (args := #[.agg (brow bs)]) (by kernel_rfl) (cP.at f4) (fun w7 hb => hK _ _ ?_)
          simp only [Act.put, List.setIfInBounds_toArray, List.set_cons_succ, List.set_cons_zero]
          clear hK
          replace r0 := keep hb r0
          replace r1 := keep hb r1
          replace hw := Below.after hw hb
          replace f4 := f4.below hb
          clear hb
          exact cut_to (key _ ⟨r0, r1, hw, f4⟩) (by kernel_rfl)
      · skip
        rw [if_pos (by kernel_rfl)]
        simp only [List.getElem_toArray, List.getElem_cons_succ, List.getElem_cons_zero]
        refine wp_load_row 34 _ rfl (w.heap.size + 1) rfl 34 (brow bs) (0, 0) _ r1 Tryd.underlying34 rfl hk.info (hK _ _ ?_)
        simp only [Act.put, List.setIfInBounds_toArray, List.set_cons_succ, List.set_cons_zero]
        clear hK
        refine wpAny_ready (rs := [0]) (fuel := 5) (by kernel_rfl) (by simp) (AllReady.cons rfl (fun K' hK => ?_) AllReady.nil)
        rw [if_pos (by kernel_rfl)]
        simp only [List.getElem_toArray, List.getElem_cons_zero]
        refine wp_load_row 34 _ rfl (w.heap.size + 1) rfl 34 (brow bs) (0, 0) _ r1 Tryd.underlying34 rfl hk.info (hK _ _ ?_)
        simp only [Act.put, List.setIfInBounds_toArray, List.set_cons_succ, List.set_cons_zero]
        clear hK
        refine wpAny_ready (rs := [1]) (fuel := 4) (by kernel_rfl) (by simp) (AllReady.cons rfl (fun K' hK => ?_) AllReady.nil)
        rw [if_pos (by kernel_rfl)]
        simp only [List.getElem_toArray, List.getElem_cons_succ, List.getElem_cons_zero]
        refine wp_call_op (f := 58) (args := #[.agg (brow bs)]) (by kernel_rfl) (cC.at _) (fun w8 hb => hK _ _ ?_)
        simp only [Act.put, List.setIfInBounds_toArray, List.set_cons_succ, List.set_cons_zero]
        clear hK
        replace r0 := keep hb r0
        replace r1 := keep hb r1
        replace hw := Below.after hw hb
        replace f4 := f4.below hb
        clear hb
        refine wpAny_ready (rs := [3]) (fuel := 3) (by kernel_rfl) (by simp) (AllReady.cons rfl (fun K' hK => ?_) AllReady.nil)
        rw [if_pos (by kernel_rfl)]
        simp only [List.getElem_toArray, List.getElem_cons_succ, List.getElem_cons_zero]
        refine wp_call_op (f := 21) (args := #[.agg (brow bs)]) (by kernel_rfl) (cP.at f4) (fun w9 hb => hK _ _ ?_)
        simp only [Act.put, List.setIfInBounds_toArray, List.set_cons_succ, List.set_cons_zero]
        clear hK
        replace r0 := keep hb r0
        replace r1 := keep hb r1
        replace hw := Below.after hw hb
        replace f4 := f4.below hb
        clear hb
        exact cut_to (key _ ⟨r0, r1, hw, f4⟩) (by kernel_rfl)
    · clear r0 r1 hw f4
      intro w10 ⟨r0, r1, hw, f4⟩
      refine wpAny_ready (rs := [4]) (fuel := 2) (by kernel_rfl) (by simp) (AllReady.cons rfl (fun K' hK => ?_) AllReady.nil)
      rw [if_pos (by kernel_rfl)]
      simp only [List.getElem_toArray, List.getElem_cons_succ, List.getElem_cons_zero]
      refine wp_build_as 58 _ rfl [(0, .agg (kb S)), (1, .agg (kb Y))] rfl PC pair_built (hK _ _ ?_)
      simp only [Act.put, List.setIfInBounds_toArray, List.set_cons_succ, List.set_cons_zero]
      clear hK
      refine wpAny_ready (rs := [5]) (fuel := 1) (by kernel_rfl) (by simp) (AllReady.cons rfl (fun K' hK => ?_) AllReady.nil)
      rw [if_pos (by kernel_rfl)]
      simp only [List.getElem_toArray, List.getElem_cons_succ, List.getElem_cons_zero]
      refine wp_store_row 58 _ _ rfl (w.heap.size) PC rfl rfl 58 _ r0 hPi (show _ = _ from hPs.symm) hPo (hK _ _ ?_)
      simp only [Act.put]
      clear hK
      replace r1 := (setRow_other w10 (w.heap.size) (w.heap.size + 1) PC (by first | assumption | omega)).trans r1
      replace r0 := setRow_heap w10 (w.heap.size) _ PC _ _ r0
      replace hw := below_setRow hw (show w.heap.size ≤ w.heap.size by first | assumption | omega) PC
      replace f4 := f4.setRow (show 0 < w.heap.size by first | assumption | omega) PC
      generalize w10.setRow (w.heap.size) PC = w11 at *
      refine wpAny_ready (rs := [6]) (fuel := 0) (by kernel_rfl) (by simp) (AllReady.cons rfl (fun K' hK => ?_) AllReady.nil)
      rw [if_pos (by kernel_rfl)]
      simp only [List.getElem_toArray, List.getElem_cons_succ, List.getElem_cons_zero]
      refine wp_pure_op (.int .i64 0) (by kernel_rfl) (hK _ _ ?_)
      simp only [Act.put, List.setIfInBounds_toArray, List.set_cons_succ, List.set_cons_zero]
      clear hK
      refine wpAny_done (by kernel_rfl) ?_ _
      go_wp2_with (first | fail)
      exact bodyPost_ret (v := .tuple #[.agg PC, .int .i64 0]) (results_row_slot Tryd.results25 _ _ (w.heap.size) _ PC _ _ (.int .i64 0) rfl r0 rfl Tryd.underlying58 rfl hPi) rfl ⟨rfl, hw⟩
  · rw [show pairV bs = #[.int .u8 0, .int .u8 0, .int .u8 0, .int .u8 0, .int .u8 0, .int .u8 0, .int .u8 0, .int .u8 0, .int .u8 0, .int .u8 0, .int .u8 0, .int .u8 0, .int .u8 0, .int .u8 0, .int .u8 0, .int .u8 0, .int .u8 0, .int .u8 0, .int .u8 0, .int .u8 0, .int .u8 0, .int .u8 0, .int .u8 0, .int .u8 0, .int .u8 0, .int .u8 0, .int .u8 0, .int .u8 0, .int .u8 0, .int .u8 0, .int .u8 0, .int .u8 0, .int .u8 0, .int .u8 0, .int .u8 0, .int .u8 0, .int .u8 0, .int .u8 0, .int .u8 0, .int .u8 0, .int .u8 0, .int .u8 0, .int .u8 0, .int .u8 0, .int .u8 0, .int .u8 0, .int .u8 0, .int .u8 0, .int .u8 0, .int .u8 0, .int .u8 0, .int .u8 0, .int .u8 0, .int .u8 0, .int .u8 0, .int .u8 0, .int .u8 0, .int .u8 0, .int .u8 0, .int .u8 0, .int .u8 0, .int .u8 0, .int .u8 0, .int .u8 0] from if_neg h32, show pairE bs = 3 from if_neg h32]
    have hd : decide ((bs.length : Int) = 32) = false := by simp; omega
    generalize bs.length = len at *
    go_enter Tryd.func25, Tryd.ntmps25
    iterate 9 go_step
    generalize (w.alloc (.cells #[.int .u8 0, .int .u8 0, .int .u8 0, .int .u8 0, .int .u8 0, .int .u8 0, .int .u8 0, .int .u8 0, .int .u8 0, .int .u8 0, .int .u8 0, .int .u8 0, .int .u8 0, .int .u8 0, .int .u8 0, .int .u8 0, .int .u8 0, .int .u8 0, .int .u8 0, .int .u8 0, .int .u8 0, .int .u8 0, .int .u8 0, .int .u8 0, .int .u8 0, .int .u8 0, .int .u8 0, .int .u8 0, .int .u8 0, .int .u8 0, .int .u8 0, .int .u8 0, .int .u8 0, .int .u8 0, .int .u8 0, .int .u8 0, .int .u8 0, .int .u8 0, .int .u8 0, .int .u8 0, .int .u8 0, .int .u8 0, .int .u8 0, .int .u8 0, .int .u8 0, .int .u8 0, .int .u8 0, .int .u8 0, .int .u8 0, .int .u8 0, .int .u8 0, .int .u8 0, .int .u8 0, .int .u8 0, .int .u8 0, .int .u8 0, .int .u8 0, .int .u8 0, .int .u8 0, .int .u8 0, .int .u8 0, .int .u8 0, .int .u8 0, .int .u8 0] 58)) = w0 at *
    go_wp2_with (first | (refine wpList_build_as rfl 58 _ rfl [] rfl #[.int .u8 0, .int .u8 0, .int .u8 0, .int .u8 0, .int .u8 0, .int .u8 0, .int .u8 0, .int .u8 0, .int .u8 0, .int .u8 0, .int .u8 0, .int .u8 0, .int .u8 0, .int .u8 0, .int .u8 0, .int .u8 0, .int .u8 0, .int .u8 0, .int .u8 0, .int .u8 0, .int .u8 0, .int .u8 0, .int .u8 0, .int .u8 0, .int .u8 0, .int .u8 0, .int .u8 0, .int .u8 0, .int .u8 0, .int .u8 0, .int .u8 0, .int .u8 0, .int .u8 0, .int .u8 0, .int .u8 0, .int .u8 0, .int .u8 0, .int .u8 0, .int .u8 0, .int .u8 0, .int .u8 0, .int .u8 0, .int .u8 0, .int .u8 0, .int .u8 0, .int .u8 0, .int .u8 0, .int .u8 0, .int .u8 0, .int .u8 0, .int .u8 0, .int .u8 0, .int .u8 0, .int .u8 0, .int .u8 0, .int .u8 0, .int .u8 0, .int .u8 0, .int .u8 0, .int .u8 0, .int .u8 0, .int .u8 0, .int .u8 0, .int .u8 0] pair_built0 ?_) | (refine wpList_store_row rfl 58 _ _ rfl (w.heap.size) #[.int .u8 0, .int .u8 0, .int .u8 0, .int .u8 0, .int .u8 0, .int .u8 0, .int .u8 0, .int .u8 0, .int .u8 0, .int .u8 0, .int .u8 0, .int .u8 0, .int .u8 0, .int .u8 0, .int .u8 0, .int .u8 0, .int .u8 0, .int .u8 0, .int .u8 0, .int .u8 0, .int .u8 0, .int .u8 0, .int .u8 0, .int .u8 0, .int .u8 0, .int .u8 0, .int .u8 0, .int .u8 0, .int .u8 0, .int .u8 0, .int .u8 0, .int .u8 0, .int .u8 0, .int .u8 0, .int .u8 0, .int .u8 0, .int .u8 0, .int .u8 0, .int .u8 0, .int .u8 0, .int .u8 0, .int .u8 0, .int .u8 0, .int .u8 0, .int .u8 0, .int .u8 0, .int .u8 0, .int .u8 0, .int .u8 0, .int .u8 0, .int .u8 0, .int .u8 0, .int .u8 0, .int .u8 0, .int .u8 0, .int .u8 0, .int .u8 0, .int .u8 0, .int .u8 0, .int .u8 0, .int .u8 0, .int .u8 0, .int .u8 0, .int .u8 0] rfl rfl 58 _ r0 (by kernel_rfl) rfl (by kernel_rfl) ?_) | fail)
    exact bodyPost_ret (v := .tuple #[.agg #[.int .u8 0, .int .u8 0, .int .u8 0, .int .u8 0, .int .u8 0, .int .u8 0, .int .u8 0, .int .u8 0, .int .u8 0, .int .u8 0, .int .u8 0, .int .u8 0, .int .u8 0, .int .u8 0, .int .u8 0, .int .u8 0, .int .u8 0, .int .u8 0, .int .u8 0, .int .u8 0, .int .u8 0, .int .u8 0, .int .u8 0, .int .u8 0, .int .u8 0, .int .u8 0, .int .u8 0, .int .u8 0, .int .u8 0, .int .u8 0, .int .u8 0, .int .u8 0, .int .u8 0, .int .u8 0, .int .u8 0, .int .u8 0, .int .u8 0, .int .u8 0, .int .u8 0, .int .u8 0, .int .u8 0, .int .u8 0, .int .u8 0, .int .u8 0, .int .u8 0, .int .u8 0, .int .u8 0, .int .u8 0, .int .u8 0, .int .u8 0, .int .u8 0, .int .u8 0, .int .u8 0, .int .u8 0, .int .u8 0, .int .u8 0, .int .u8 0, .int .u8 0, .int .u8 0, .int .u8 0, .int .u8 0, .int .u8 0, .int .u8 0, .int .u8 0], .int .i64 3]) (results_row_slot Tryd.results25 _ _ (w.heap.size) _ #[.int .u8 0, .int .u8 0, .int .u8 0, .int .u8 0, .int .u8 0, .int .u8 0, .int .u8 0, .int .u8 0, .int .u8 0, .int .u8 0, .int .u8 0, .int .u8 0, .int .u8 0, .int .u8 0, .int .u8 0, .int .u8 0, .int .u8 0, .int .u8 0, .int .u8 0, .int .u8 0, .int .u8 0, .int .u8 0, .int .u8 0, .int .u8 0, .int .u8 0, .int .u8 0, .int .u8 0, .int .u8 0, .int .u8 0, .int .u8 0, .int .u8 0, .int .u8 0, .int .u8 0, .int .u8 0, .int .u8 0, .int .u8 0, .int .u8 0, .int .u8 0, .int .u8 0, .int .u8 0, .int .u8 0, .int .u8 0, .int .u8 0, .int .u8 0, .int .u8 0, .int .u8 0, .int .u8 0, .int .u8 0, .int .u8 0, .int .u8 0, .int .u8 0, .int .u8 0, .int .u8 0, .int .u8 0, .int .u8 0, .int .u8 0, .int .u8 0, .int .u8 0, .int .u8 0, .int .u8 0, .int .u8 0, .int .u8 0, .int .u8 0, .int .u8 0] _ _ (.int .i64 3) rfl (setRow_heap _ _ _ _ _ _ r0) rfl Tryd.underlying58 rfl (by kernel_rfl)) rfl ⟨rfl, below_setRow hw (Nat.le_refl _) _⟩

end Go.Proofs.YtkogejglfgghmaaDoor


namespace Go.Proofs.YtkogejglfgghmaaDoor
open Go.RowKit Go.Sort
attribute [local go_sem] setCell_drewN alloc_drewN


/-- The first k of a, then what is left of c. -/
def mix (a c : List Int) (k : Nat) : List Int := a.take k ++ c.drop k
theorem mix_zero (a c : List Int) : mix a c 0 = c := by simp [mix]
theorem mix_all (a c : List Int) (h : a.length = c.length) : mix a c c.length = a := by
  unfold mix
  rw [← h, List.take_length, h, List.drop_length, List.append_nil]
theorem mix_length (a c : List Int) (k : Nat) (h : a.length = c.length) (hk : k ≤ c.length) : (mix a c k).length = c.length := by simp [mix]; omega
theorem mix_set (a c : List Int) (k : Nat) (h : a.length = c.length) (hk : k < c.length) : (mix a c k).set k (a.getD k 0) = mix a c (k + 1) := by
  apply List.ext_getElem?
  intro j
  have h1 : (a.take k).length = k := by simp; omega
  have h2 : (a.take (k + 1)).length = k + 1 := by simp; omega
  unfold mix
  rw [List.getElem?_set]
  by_cases e : k = j
  · subst e
    rw [if_pos rfl, if_pos (by simp; omega), List.getElem?_append_left (by omega), List.getElem?_take_of_lt (by omega)]
    rw [List.getD_eq_getElem?_getD, List.getElem?_eq_getElem (by omega)]
    rfl
  · rw [if_neg e]
    by_cases hj : j < k
    · rw [List.getElem?_append_left (by omega), List.getElem?_append_left (by omega), List.getElem?_take_of_lt hj, List.getElem?_take_of_lt (by omega)]
    · rw [List.getElem?_append_right (by omega), List.getElem?_append_right (by omega), List.getElem?_drop, List.getElem?_drop, h1, h2]
      congr 1
      omega
theorem brow_zeros : brow (List.replicate 32 0) = #[.int .u8 0, .int .u8 0, .int .u8 0, .int .u8 0, .int .u8 0, .int .u8 0, .int .u8 0, .int .u8 0, .int .u8 0, .int .u8 0, .int .u8 0, .int .u8 0, .int .u8 0, .int .u8 0, .int .u8 0, .int .u8 0, .int .u8 0, .int .u8 0, .int .u8 0, .int .u8 0, .int .u8 0, .int .u8 0, .int .u8 0, .int .u8 0, .int .u8 0, .int .u8 0, .int .u8 0, .int .u8 0, .int .u8 0, .int .u8 0, .int .u8 0, .int .u8 0] := rfl
set_option maxRecDepth 100000 in
set_option maxHeartbeats 8000000 in
theorem r_pair (bs : List Int) (hz : ∀ z ∈ bs, 0 ≤ z ∧ z < 256) (w : World) (v : Value) (hB : Bys w v bs) :
    Calls Tryd.prog 26 #[v] w fun e w' => e = .returned (.tuple #[.agg (pairV bs), .int .i64 (pairE bs)]) ∧ Below w.heap.size w w' := by
  obtain ⟨ao, cap, rfl, hl, hc, _⟩ := hB
  by_cases h32 : bs.length = 32
  · rw [show pairV bs = pairC (valB bs) from if_pos h32, show pairE bs = 0 from if_pos h32]
    have hk := brow_key bs h32 hz
    have R0 := hp2_0 w (.cells #[.int .u8 0, .int .u8 0, .int .u8 0, .int .u8 0, .int .u8 0, .int .u8 0, .int .u8 0, .int .u8 0, .int .u8 0, .int .u8 0, .int .u8 0, .int .u8 0, .int .u8 0, .int .u8 0, .int .u8 0, .int .u8 0, .int .u8 0, .int .u8 0, .int .u8 0, .int .u8 0, .int .u8 0, .int .u8 0, .int .u8 0, .int .u8 0, .int .u8 0, .int .u8 0, .int .u8 0, .int .u8 0, .int .u8 0, .int .u8 0, .int .u8 0, .int .u8 0, .int .u8 0, .int .u8 0, .int .u8 0, .int .u8 0, .int .u8 0, .int .u8 0, .int .u8 0, .int .u8 0, .int .u8 0, .int .u8 0, .int .u8 0, .int .u8 0, .int .u8 0, .int .u8 0, .int .u8 0, .int .u8 0, .int .u8 0, .int .u8 0, .int .u8 0, .int .u8 0, .int .u8 0, .int .u8 0, .int .u8 0, .int .u8 0, .int .u8 0, .int .u8 0, .int .u8 0, .int .u8 0, .int .u8 0, .int .u8 0, .int .u8 0, .int .u8 0] 58) (.cells #[.int .u8 0, .int .u8 0, .int .u8 0, .int .u8 0, .int .u8 0, .int .u8 0, .int .u8 0, .int .u8 0, .int .u8 0, .int .u8 0, .int .u8 0, .int .u8 0, .int .u8 0, .int .u8 0, .int .u8 0, .int .u8 0, .int .u8 0, .int .u8 0, .int .u8 0, .int .u8 0, .int .u8 0, .int .u8 0, .int .u8 0, .int .u8 0, .int .u8 0, .int .u8 0, .int .u8 0, .int .u8 0, .int .u8 0, .int .u8 0, .int .u8 0, .int .u8 0] 34)
    have R1 := hp2_1 w (.cells #[.int .u8 0, .int .u8 0, .int .u8 0, .int .u8 0, .int .u8 0, .int .u8 0, .int .u8 0, .int .u8 0, .int .u8 0, .int .u8 0, .int .u8 0, .int .u8 0, .int .u8 0, .int .u8 0, .int .u8 0, .int .u8 0, .int .u8 0, .int .u8 0, .int .u8 0, .int .u8 0, .int .u8 0, .int .u8 0, .int .u8 0, .int .u8 0, .int .u8 0, .int .u8 0, .int .u8 0, .int .u8 0, .int .u8 0, .int .u8 0, .int .u8 0, .int .u8 0, .int .u8 0, .int .u8 0, .int .u8 0, .int .u8 0, .int .u8 0, .int .u8 0, .int .u8 0, .int .u8 0, .int .u8 0, .int .u8 0, .int .u8 0, .int .u8 0, .int .u8 0, .int .u8 0, .int .u8 0, .int .u8 0, .int .u8 0, .int .u8 0, .int .u8 0, .int .u8 0, .int .u8 0, .int .u8 0, .int .u8 0, .int .u8 0, .int .u8 0, .int .u8 0, .int .u8 0, .int .u8 0, .int .u8 0, .int .u8 0, .int .u8 0, .int .u8 0] 58) (.cells #[.int .u8 0, .int .u8 0, .int .u8 0, .int .u8 0, .int .u8 0, .int .u8 0, .int .u8 0, .int .u8 0, .int .u8 0, .int .u8 0, .int .u8 0, .int .u8 0, .int .u8 0, .int .u8 0, .int .u8 0, .int .u8 0, .int .u8 0, .int .u8 0, .int .u8 0, .int .u8 0, .int .u8 0, .int .u8 0, .int .u8 0, .int .u8 0, .int .u8 0, .int .u8 0, .int .u8 0, .int .u8 0, .int .u8 0, .int .u8 0, .int .u8 0, .int .u8 0] 34)
    have HW : Below w.heap.size w ((w.alloc (.cells #[.int .u8 0, .int .u8 0, .int .u8 0, .int .u8 0, .int .u8 0, .int .u8 0, .int .u8 0, .int .u8 0, .int .u8 0, .int .u8 0, .int .u8 0, .int .u8 0, .int .u8 0, .int .u8 0, .int .u8 0, .int .u8 0, .int .u8 0, .int .u8 0, .int .u8 0, .int .u8 0, .int .u8 0, .int .u8 0, .int .u8 0, .int .u8 0, .int .u8 0, .int .u8 0, .int .u8 0, .int .u8 0, .int .u8 0, .int .u8 0, .int .u8 0, .int .u8 0, .int .u8 0, .int .u8 0, .int .u8 0, .int .u8 0, .int .u8 0, .int .u8 0, .int .u8 0, .int .u8 0, .int .u8 0, .int .u8 0, .int .u8 0, .int .u8 0, .int .u8 0, .int .u8 0, .int .u8 0, .int .u8 0, .int .u8 0, .int .u8 0, .int .u8 0, .int .u8 0, .int .u8 0, .int .u8 0, .int .u8 0, .int .u8 0, .int .u8 0, .int .u8 0, .int .u8 0, .int .u8 0, .int .u8 0, .int .u8 0, .int .u8 0, .int .u8 0] 58)).alloc (.cells #[.int .u8 0, .int .u8 0, .int .u8 0, .int .u8 0, .int .u8 0, .int .u8 0, .int .u8 0, .int .u8 0, .int .u8 0, .int .u8 0, .int .u8 0, .int .u8 0, .int .u8 0, .int .u8 0, .int .u8 0, .int .u8 0, .int .u8 0, .int .u8 0, .int .u8 0, .int .u8 0, .int .u8 0, .int .u8 0, .int .u8 0, .int .u8 0, .int .u8 0, .int .u8 0, .int .u8 0, .int .u8 0, .int .u8 0, .int .u8 0, .int .u8 0, .int .u8 0] 34)) := ((Below.refl _ _).alloc (Nat.le_refl _) _).alloc (by simp) _
    have cC := r_clamp hk
    have cP := r_public hk
    have hS : KeyOf (kb (clp (valB bs))) (clp (valB bs)) := kb_key _ (clp_bd _).1 (Int.lt_trans (clp_bd _).2 (by decide))
    have hY : KeyOf (kb (scl (valB bs) 9)) (scl (valB bs) 9) := kb_key _ (scl_bd _ _).1 (scl_bd _ _).2
    have hPi : (Tryd.prog.info? 58).map (·.size) = some (pairC (valB bs)).size := pair_info
    have hPo := pairC_one (valB bs)
    have hPs := pairC_size (valB bs)
    have pair_built := pair_built
    have ePC : pairC (valB bs) = ((kb (clp (valB bs))).toList ++ (kb (scl (valB bs) 9)).toList).toArray := rfl
    generalize pairC (valB bs) = PC at *
    generalize clp (valB bs) = S at *
    generalize scl (valB bs) 9 = Y at *
    replace pair_built := pair_built S Y
    rw [← ePC] at pair_built
    clear ePC
    rw [h32] at hc ⊢
    go_enter Tryd.func26, Tryd.ntmps26
    iterate 36 go_step
    generalize ((w.alloc (.cells #[.int .u8 0, .int .u8 0, .int .u8 0, .int .u8 0, .int .u8 0, .int .u8 0, .int .u8 0, .int .u8 0, .int .u8 0, .int .u8 0, .int .u8 0, .int .u8 0, .int .u8 0, .int .u8 0, .int .u8 0, .int .u8 0, .int .u8 0, .int .u8 0, .int .u8 0, .int .u8 0, .int .u8 0, .int .u8 0, .int .u8 0, .int .u8 0, .int .u8 0, .int .u8 0, .int .u8 0, .int .u8 0, .int .u8 0, .int .u8 0, .int .u8 0, .int .u8 0, .int .u8 0, .int .u8 0, .int .u8 0, .int .u8 0, .int .u8 0, .int .u8 0, .int .u8 0, .int .u8 0, .int .u8 0, .int .u8 0, .int .u8 0, .int .u8 0, .int .u8 0, .int .u8 0, .int .u8 0, .int .u8 0, .int .u8 0, .int .u8 0, .int .u8 0, .int .u8 0, .int .u8 0, .int .u8 0, .int .u8 0, .int .u8 0, .int .u8 0, .int .u8 0, .int .u8 0, .int .u8 0, .int .u8 0, .int .u8 0, .int .u8 0, .int .u8 0] 58)).alloc (.cells #[.int .u8 0, .int .u8 0, .int .u8 0, .int .u8 0, .int .u8 0, .int .u8 0, .int .u8 0, .int .u8 0, .int .u8 0, .int .u8 0, .int .u8 0, .int .u8 0, .int .u8 0, .int .u8 0, .int .u8 0, .int .u8 0, .int .u8 0, .int .u8 0, .int .u8 0, .int .u8 0, .int .u8 0, .int .u8 0, .int .u8 0, .int .u8 0, .int .u8 0, .int .u8 0, .int .u8 0, .int .u8 0, .int .u8 0, .int .u8 0, .int .u8 0, .int .u8 0] 34)) = w0 at *
    go_wp2
    go_loopw [5] (fun i wr => ∃ k : Nat, k ≤ 32 ∧ i = .int .i64 k ∧ wr.heap[w.heap.size]? = some (.cells #[.int .u8 0, .int .u8 0, .int .u8 0, .int .u8 0, .int .u8 0, .int .u8 0, .int .u8 0, .int .u8 0, .int .u8 0, .int .u8 0, .int .u8 0, .int .u8 0, .int .u8 0, .int .u8 0, .int .u8 0, .int .u8 0, .int .u8 0, .int .u8 0, .int .u8 0, .int .u8 0, .int .u8 0, .int .u8 0, .int .u8 0, .int .u8 0, .int .u8 0, .int .u8 0, .int .u8 0, .int .u8 0, .int .u8 0, .int .u8 0, .int .u8 0, .int .u8 0, .int .u8 0, .int .u8 0, .int .u8 0, .int .u8 0, .int .u8 0, .int .u8 0, .int .u8 0, .int .u8 0, .int .u8 0, .int .u8 0, .int .u8 0, .int .u8 0, .int .u8 0, .int .u8 0, .int .u8 0, .int .u8 0, .int .u8 0, .int .u8 0, .int .u8 0, .int .u8 0, .int .u8 0, .int .u8 0, .int .u8 0, .int .u8 0, .int .u8 0, .int .u8 0, .int .u8 0, .int .u8 0, .int .u8 0, .int .u8 0, .int .u8 0, .int .u8 0] 58 (0, 0)) ∧ wr.heap[w.heap.size + 1]? = some (.cells (brow (mix bs (List.replicate 32 0) k)) 34 (0, 0)) ∧ Below w.heap.size w wr) (fun i _ => 32 - (intOf i).toNat)
    case atStart => exact ⟨0, by omega, rfl, R0, by rw [mix_zero, brow_zeros]; exact R1, HW⟩
    case round =>
      clear R0 R1 HW
      obtain ⟨k, hk', rfl, r0, r1, hw⟩ := hrel
      by_cases hlt : k < 32
      · have hd : decide ((k : Int) < 32) = true := by simp; omega
        obtain ⟨bb, off, rfl, hb1, hb2⟩ := hc k hlt
        replace hb2 := (hw.cell (p := ⟨bb, off + k, none⟩) hb1).trans hb2
        have hL : (mix bs (List.replicate 32 0) k).length = 32 := by rw [mix_length _ _ _ (by simp [h32]) (by simp; omega)]; simp
        have ck := brow_cell r1 (k := k) (by omega)
        have fk := brow_frozen r1 k
        have hnext := brow_set r1 k (bs.getD k 0)
        rw [mix_set _ _ _ (by simp [h32]) (by simp; omega)] at hnext
        generalize bs.getD k 0 = z at *
        generalize (mix bs (List.replicate 32 0) k).getD k 0 = z0 at *
        go_wp2
        go_roundw
        case rel => exact ⟨k + 1, by omega, by go_num, (heap_setCell_other _ _ _ _ (by simp)).trans r0, hnext, hw.setCell (Nat.le_succ _) _⟩
        case measure => simp [intOf]; omega
      · obtain rfl : k = 32 := by omega
        have hd : decide (((32 : Nat) : Int) < 32) = false := by decide
        have hm : mix bs (List.replicate 32 0) 32 = bs := by have := mix_all bs (List.replicate 32 0) (by simp [h32]); simpa using this
        rw [hm] at r1
        clear hm
        go_wp2_with (first | fail)
        refine wp_region_any (by kernel_rfl) ?_
        have hb : Below wr.heap.size wr { wr with drawn := wr.drawn + 1 } := ⟨rfl, rfl, rfl, Nat.le_refl _, fun _ _ => rfl⟩
        generalize ({ wr with drawn := wr.drawn + 1 } : World) = w1 at *
        replace r0 := keep hb r0
        replace r1 := keep hb r1
        replace hw := Below.after hw hb
        clear hb
        apply cut_at 3 #[true, true, true, true, false, false, false] (fun W => W.heap[w.heap.size]? = some (.cells #[.int .u8 0, .int .u8 0, .int .u8 0, .int .u8 0, .int .u8 0, .int .u8 0, .int .u8 0, .int .u8 0, .int .u8 0, .int .u8 0, .int .u8 0, .int .u8 0, .int .u8 0, .int .u8 0, .int .u8 0, .int .u8 0, .int .u8 0, .int .u8 0, .int .u8 0, .int .u8 0, .int .u8 0, .int .u8 0, .int .u8 0, .int .u8 0, .int .u8 0, .int .u8 0, .int .u8 0, .int .u8 0, .int .u8 0, .int .u8 0, .int .u8 0, .int .u8 0, .int .u8 0, .int .u8 0, .int .u8 0, .int .u8 0, .int .u8 0, .int .u8 0, .int .u8 0, .int .u8 0, .int .u8 0, .int .u8 0, .int .u8 0, .int .u8 0, .int .u8 0, .int .u8 0, .int .u8 0, .int .u8 0, .int .u8 0, .int .u8 0, .int .u8 0, .int .u8 0, .int .u8 0, .int .u8 0, .int .u8 0, .int .u8 0, .int .u8 0, .int .u8 0, .int .u8 0, .int .u8 0, .int .u8 0, .int .u8 0, .int .u8 0, .int .u8 0] 58 (0, 0)) ∧ W.heap[w.heap.size + 1]? = some (.cells (brow bs) 34 (0, 0)) ∧ Below w.heap.size w W)
        · intro key
          refine wpAny_ready (rs := [0, 2]) (fuel := 6) (by kernel_rfl) (by simp) (AllReady.cons rfl (fun K' hK => ?_) (AllReady.cons rfl (fun K' hK => ?_) AllReady.nil))
          · skip
            rw [if_pos (by kernel_rfl)]
            simp only [List.getElem_toArray, List.getElem_cons_zero]
            refine wp_load_row 34 _ rfl (w.heap.size + 1) rfl 34 (brow bs) (0, 0) _ r1 Tryd.underlying34 rfl hk.info (hK _ _ ?_)
            simp only [Act.put, List.setIfInBounds_toArray, List.set_cons_succ, List.set_cons_zero]
            clear hK
            refine wpAny_ready (rs := [1, 2]) (fuel := 5) (by kernel_rfl) (by simp) (AllReady.cons rfl (fun K' hK => ?_) (AllReady.cons rfl (fun K' hK => ?_) AllReady.nil))
            · skip
              rw [if_pos (by kernel_rfl)]
              simp only [List.getElem_toArray, List.getElem_cons_succ, List.getElem_cons_zero]
              refine wp_call_op (f := 61) (args := #[.agg (brow bs)]) (by kernel_rfl) (cC.at _) (fun w2 hb => hK _ _ ?_)
              simp only [Act.put, List.setIfInBounds_toArray, List.set_cons_succ, List.set_cons_zero]
              clear hK
              replace r0 := keep hb r0
              replace r1 := keep hb r1
              replace hw := Below.after hw hb
              clear hb
              refine wpAny_ready (rs := [2]) (fuel := 4) (by kernel_rfl) (by simp) (AllReady.cons rfl (fun K' hK => ?_) AllReady.nil)
              rw [if_pos (by kernel_rfl)]
              simp only [List.getElem_toArray, List.getElem_cons_succ, List.getElem_cons_zero]
              refine wp_load_row 34 _ rfl (w.heap.size + 1) rfl 34 (brow bs) (0, 0) _ r1 Tryd.underlying34 rfl hk.info (hK _ _ ?_)
              simp only [Act.put, List.setIfInBounds_toArray, List.set_cons_succ, List.set_cons_zero]
              clear hK
              refine wpAny_ready (rs := [3]) (fuel := 3) (by kernel_rfl) (by simp) (AllReady.cons rfl (fun K' hK => ?_) AllReady.nil)
              rw [if_pos (by kernel_rfl)]
              simp only [List.getElem_toArray, List.getElem_cons_succ, List.getElem_cons_zero]
              refine wp_call_op (f := 22) (args := #[.agg (brow bs)]) (by kernel_rfl) (cP.at _) (fun w4 hb => hK _ _ ?_)
              simp only [Act.put, List.setIfInBounds_toArray, List.set_cons_succ, List.set_cons_zero]
              clear hK
              replace r0 := keep hb r0
              replace r1 := keep hb r1
              replace hw := Below.after hw hb
              clear hb
              exact cut_to (key _ ⟨r0, r1, hw⟩) (by kernel_rfl)
            · skip
              rw [if_pos (by kernel_rfl)]
              simp only [List.getElem_toArray, List.getElem_cons_succ, List.getElem_cons_zero]
              refine wp_load_row 34 _ rfl (w.heap.size + 1) rfl 34 (brow bs) (0, 0) _ r1 Tryd.underlying34 rfl hk.info (hK _ _ ?_)
              simp only [Act.put, List.setIfInBounds_toArray, List.set_cons_succ, List.set_cons_zero]
              clear hK
              refine wpAny_ready (rs := [1]) (fuel := 4) (by kernel_rfl) (by simp) (AllReady.cons rfl (fun K' hK => ?_) AllReady.nil)
              rw [if_pos (by kernel_rfl)]
              simp only [List.getElem_toArray, List.getElem_cons_succ, List.getElem_cons_zero]
              refine wp_call_op (f := 61) (args := #[.agg (brow bs)]) (by kernel_rfl) (cC.at _) (fun w6 hb => hK _ _ ?_)
              simp only [Act.put, List.setIfInBounds_toArray, List.set_cons_succ, List.set_cons_zero]
              clear hK
              replace r0 := keep hb r0
              replace r1 := keep hb r1
              replace hw := Below.after hw hb
              clear hb
              refine wpAny_ready (rs := [3]) (fuel := 3) (by kernel_rfl) (by simp) (AllReady.cons rfl (fun K' hK => ?_) AllReady.nil)
              rw [if_pos (by kernel_rfl)]
              simp only [List.getElem_toArray, List.getElem_cons_succ, List.getElem_cons_zero]
              refine wp_call_op (f := 22) (args := #[.agg (brow bs)]) (by kernel_rfl) (cP.at _) (fun w7 hb => hK _ _ ?_)
              simp only [Act.put, List.setIfInBounds_toArray, List.set_cons_succ, List.set_cons_zero]
              clear hK
              replace r0 := keep hb r0
              replace r1 := keep hb r1
              replace hw := Below.after hw hb
              clear hb
              exact cut_to (key _ ⟨r0, r1, hw⟩) (by kernel_rfl)
          · skip
            rw [if_pos (by kernel_rfl)]
            simp only [List.getElem_toArray, List.getElem_cons_succ, List.getElem_cons_zero]
            refine wp_load_row 34 _ rfl (w.heap.size + 1) rfl 34 (brow bs) (0, 0) _ r1 Tryd.underlying34 rfl hk.info (hK _ _ ?_)
            simp only [Act.put, List.setIfInBounds_toArray, List.set_cons_succ, List.set_cons_zero]
            clear hK
            refine wpAny_ready (rs := [0]) (fuel := 5) (by kernel_rfl) (by simp) (AllReady.cons rfl (fun K' hK => ?_) AllReady.nil)
            rw [if_pos (by kernel_rfl)]
            simp only [List.getElem_toArray, List.getElem_cons_zero]
            refine wp_load_row 34 _ rfl (w.heap.size + 1) rfl 34 (brow bs) (0, 0) _ r1 Tryd.underlying34 rfl hk.info (hK _ _ ?_)
            simp only [Act.put, List.setIfInBounds_toArray, List.set_cons_succ, List.set_cons_zero]
            clear hK
            refine wpAny_ready (rs := [1]) (fuel := 4) (by kernel_rfl) (by simp) (AllReady.cons rfl (fun K' hK => ?_) AllReady.nil)
            rw [if_pos (by kernel_rfl)]
            simp only [List.getElem_toArray, List.getElem_cons_succ, List.getElem_cons_zero]
            refine wp_call_op (f := 61) (args := #[.agg (brow bs)]) (by kernel_rfl) (cC.at _) (fun w8 hb => hK _ _ ?_)
            simp only [Act.put, List.setIfInBounds_toArray, List.set_cons_succ, List.set_cons_zero]
            clear hK
            replace r0 := keep hb r0
            replace r1 := keep hb r1
            replace hw := Below.after hw hb
            clear hb
            refine wpAny_ready (rs := [3]) (fuel := 3) (by kernel_rfl) (by simp) (AllReady.cons rfl (fun K' hK => ?_) AllReady.nil)
            rw [if_pos (by kernel_rfl)]
            simp only [List.getElem_toArray, List.getElem_cons_succ, List.getElem_cons_zero]
            refine wp_call_op (f := 22) (args := #[.agg (brow bs)]) (by kernel_rfl) (cP.at _) (fun w9 hb => hK _ _ ?_)
            simp only [Act.put, List.setIfInBounds_toArray, List.set_cons_succ, List.set_cons_zero]
            clear hK
            replace r0 := keep hb r0
            replace r1 := keep hb r1
            replace hw := Below.after hw hb
            clear hb
            exact cut_to (key _ ⟨r0, r1, hw⟩) (by kernel_rfl)
        · clear r0 r1 hw
          intro w10 ⟨r0, r1, hw⟩
          refine wpAny_ready (rs := [4]) (fuel := 2) (by kernel_rfl) (by simp) (AllReady.cons rfl (fun K' hK => ?_) AllReady.nil)
          rw [if_pos (by kernel_rfl)]
          simp only [List.getElem_toArray, List.getElem_cons_succ, List.getElem_cons_zero]
          refine wp_build_as 58 _ rfl [(0, .agg (kb S)), (1, .agg (kb Y))] rfl PC pair_built (hK _ _ ?_)
          simp only [Act.put, List.setIfInBounds_toArray, List.set_cons_succ, List.set_cons_zero]
          clear hK
          refine wpAny_ready (rs := [5]) (fuel := 1) (by kernel_rfl) (by simp) (AllReady.cons rfl (fun K' hK => ?_) AllReady.nil)
          rw [if_pos (by kernel_rfl)]
          simp only [List.getElem_toArray, List.getElem_cons_succ, List.getElem_cons_zero]
          refine wp_store_row 58 _ _ rfl (w.heap.size) PC rfl rfl 58 _ r0 hPi (show _ = _ from hPs.symm) hPo (hK _ _ ?_)
          simp only [Act.put]
          clear hK
          replace r1 := (setRow_other w10 (w.heap.size) (w.heap.size + 1) PC (by first | assumption | omega)).trans r1
          replace r0 := setRow_heap w10 (w.heap.size) _ PC _ _ r0
          replace hw := below_setRow hw (show w.heap.size ≤ w.heap.size by first | assumption | omega) PC
          generalize w10.setRow (w.heap.size) PC = w11 at *
          refine wpAny_ready (rs := [6]) (fuel := 0) (by kernel_rfl) (by simp) (AllReady.cons rfl (fun K' hK => ?_) AllReady.nil)
          rw [if_pos (by kernel_rfl)]
          simp only [List.getElem_toArray, List.getElem_cons_succ, List.getElem_cons_zero]
          refine wp_pure_op (.int .i64 0) (by kernel_rfl) (hK _ _ ?_)
          simp only [Act.put, List.setIfInBounds_toArray, List.set_cons_succ, List.set_cons_zero]
          clear hK
          refine wpAny_done (by kernel_rfl) ?_ _
          go_wp2_with (first | fail)
          exact bodyPost_ret (v := .tuple #[.agg PC, .int .i64 0]) (results_row_slot Tryd.results26 _ _ (w.heap.size) _ PC _ _ (.int .i64 0) rfl r0 rfl Tryd.underlying58 rfl hPi) rfl ⟨rfl, hw⟩
  · rw [show pairV bs = #[.int .u8 0, .int .u8 0, .int .u8 0, .int .u8 0, .int .u8 0, .int .u8 0, .int .u8 0, .int .u8 0, .int .u8 0, .int .u8 0, .int .u8 0, .int .u8 0, .int .u8 0, .int .u8 0, .int .u8 0, .int .u8 0, .int .u8 0, .int .u8 0, .int .u8 0, .int .u8 0, .int .u8 0, .int .u8 0, .int .u8 0, .int .u8 0, .int .u8 0, .int .u8 0, .int .u8 0, .int .u8 0, .int .u8 0, .int .u8 0, .int .u8 0, .int .u8 0, .int .u8 0, .int .u8 0, .int .u8 0, .int .u8 0, .int .u8 0, .int .u8 0, .int .u8 0, .int .u8 0, .int .u8 0, .int .u8 0, .int .u8 0, .int .u8 0, .int .u8 0, .int .u8 0, .int .u8 0, .int .u8 0, .int .u8 0, .int .u8 0, .int .u8 0, .int .u8 0, .int .u8 0, .int .u8 0, .int .u8 0, .int .u8 0, .int .u8 0, .int .u8 0, .int .u8 0, .int .u8 0, .int .u8 0, .int .u8 0, .int .u8 0, .int .u8 0] from if_neg h32, show pairE bs = 3 from if_neg h32]
    have r0 := hp1_0 w (.cells #[.int .u8 0, .int .u8 0, .int .u8 0, .int .u8 0, .int .u8 0, .int .u8 0, .int .u8 0, .int .u8 0, .int .u8 0, .int .u8 0, .int .u8 0, .int .u8 0, .int .u8 0, .int .u8 0, .int .u8 0, .int .u8 0, .int .u8 0, .int .u8 0, .int .u8 0, .int .u8 0, .int .u8 0, .int .u8 0, .int .u8 0, .int .u8 0, .int .u8 0, .int .u8 0, .int .u8 0, .int .u8 0, .int .u8 0, .int .u8 0, .int .u8 0, .int .u8 0, .int .u8 0, .int .u8 0, .int .u8 0, .int .u8 0, .int .u8 0, .int .u8 0, .int .u8 0, .int .u8 0, .int .u8 0, .int .u8 0, .int .u8 0, .int .u8 0, .int .u8 0, .int .u8 0, .int .u8 0, .int .u8 0, .int .u8 0, .int .u8 0, .int .u8 0, .int .u8 0, .int .u8 0, .int .u8 0, .int .u8 0, .int .u8 0, .int .u8 0, .int .u8 0, .int .u8 0, .int .u8 0, .int .u8 0, .int .u8 0, .int .u8 0, .int .u8 0] 58)
    have hw : Below w.heap.size w (w.alloc (.cells #[.int .u8 0, .int .u8 0, .int .u8 0, .int .u8 0, .int .u8 0, .int .u8 0, .int .u8 0, .int .u8 0, .int .u8 0, .int .u8 0, .int .u8 0, .int .u8 0, .int .u8 0, .int .u8 0, .int .u8 0, .int .u8 0, .int .u8 0, .int .u8 0, .int .u8 0, .int .u8 0, .int .u8 0, .int .u8 0, .int .u8 0, .int .u8 0, .int .u8 0, .int .u8 0, .int .u8 0, .int .u8 0, .int .u8 0, .int .u8 0, .int .u8 0, .int .u8 0, .int .u8 0, .int .u8 0, .int .u8 0, .int .u8 0, .int .u8 0, .int .u8 0, .int .u8 0, .int .u8 0, .int .u8 0, .int .u8 0, .int .u8 0, .int .u8 0, .int .u8 0, .int .u8 0, .int .u8 0, .int .u8 0, .int .u8 0, .int .u8 0, .int .u8 0, .int .u8 0, .int .u8 0, .int .u8 0, .int .u8 0, .int .u8 0, .int .u8 0, .int .u8 0, .int .u8 0, .int .u8 0, .int .u8 0, .int .u8 0, .int .u8 0, .int .u8 0] 58)) := (Below.refl _ _).alloc (Nat.le_refl _) _
    have hd : decide ((bs.length : Int) = 32) = false := by simp; omega
    generalize bs.length = len at *
    go_enter Tryd.func26, Tryd.ntmps26
    iterate 9 go_step
    generalize (w.alloc (.cells #[.int .u8 0, .int .u8 0, .int .u8 0, .int .u8 0, .int .u8 0, .int .u8 0, .int .u8 0, .int .u8 0, .int .u8 0, .int .u8 0, .int .u8 0, .int .u8 0, .int .u8 0, .int .u8 0, .int .u8 0, .int .u8 0, .int .u8 0, .int .u8 0, .int .u8 0, .int .u8 0, .int .u8 0, .int .u8 0, .int .u8 0, .int .u8 0, .int .u8 0, .int .u8 0, .int .u8 0, .int .u8 0, .int .u8 0, .int .u8 0, .int .u8 0, .int .u8 0, .int .u8 0, .int .u8 0, .int .u8 0, .int .u8 0, .int .u8 0, .int .u8 0, .int .u8 0, .int .u8 0, .int .u8 0, .int .u8 0, .int .u8 0, .int .u8 0, .int .u8 0, .int .u8 0, .int .u8 0, .int .u8 0, .int .u8 0, .int .u8 0, .int .u8 0, .int .u8 0, .int .u8 0, .int .u8 0, .int .u8 0, .int .u8 0, .int .u8 0, .int .u8 0, .int .u8 0, .int .u8 0, .int .u8 0, .int .u8 0, .int .u8 0, .int .u8 0] 58)) = w0 at *
    go_wp2_with (first | (refine wpList_build_as rfl 58 _ rfl [] rfl #[.int .u8 0, .int .u8 0, .int .u8 0, .int .u8 0, .int .u8 0, .int .u8 0, .int .u8 0, .int .u8 0, .int .u8 0, .int .u8 0, .int .u8 0, .int .u8 0, .int .u8 0, .int .u8 0, .int .u8 0, .int .u8 0, .int .u8 0, .int .u8 0, .int .u8 0, .int .u8 0, .int .u8 0, .int .u8 0, .int .u8 0, .int .u8 0, .int .u8 0, .int .u8 0, .int .u8 0, .int .u8 0, .int .u8 0, .int .u8 0, .int .u8 0, .int .u8 0, .int .u8 0, .int .u8 0, .int .u8 0, .int .u8 0, .int .u8 0, .int .u8 0, .int .u8 0, .int .u8 0, .int .u8 0, .int .u8 0, .int .u8 0, .int .u8 0, .int .u8 0, .int .u8 0, .int .u8 0, .int .u8 0, .int .u8 0, .int .u8 0, .int .u8 0, .int .u8 0, .int .u8 0, .int .u8 0, .int .u8 0, .int .u8 0, .int .u8 0, .int .u8 0, .int .u8 0, .int .u8 0, .int .u8 0, .int .u8 0, .int .u8 0, .int .u8 0] pair_built0 ?_) | (refine wpList_store_row rfl 58 _ _ rfl (w.heap.size) #[.int .u8 0, .int .u8 0, .int .u8 0, .int .u8 0, .int .u8 0, .int .u8 0, .int .u8 0, .int .u8 0, .int .u8 0, .int .u8 0, .int .u8 0, .int .u8 0, .int .u8 0, .int .u8 0, .int .u8 0, .int .u8 0, .int .u8 0, .int .u8 0, .int .u8 0, .int .u8 0, .int .u8 0, .int .u8 0, .int .u8 0, .int .u8 0, .int .u8 0, .int .u8 0, .int .u8 0, .int .u8 0, .int .u8 0, .int .u8 0, .int .u8 0, .int .u8 0, .int .u8 0, .int .u8 0, .int .u8 0, .int .u8 0, .int .u8 0, .int .u8 0, .int .u8 0, .int .u8 0, .int .u8 0, .int .u8 0, .int .u8 0, .int .u8 0, .int .u8 0, .int .u8 0, .int .u8 0, .int .u8 0, .int .u8 0, .int .u8 0, .int .u8 0, .int .u8 0, .int .u8 0, .int .u8 0, .int .u8 0, .int .u8 0, .int .u8 0, .int .u8 0, .int .u8 0, .int .u8 0, .int .u8 0, .int .u8 0, .int .u8 0, .int .u8 0] rfl rfl 58 _ r0 (by kernel_rfl) rfl (by kernel_rfl) ?_) | fail)
    exact bodyPost_ret (v := .tuple #[.agg #[.int .u8 0, .int .u8 0, .int .u8 0, .int .u8 0, .int .u8 0, .int .u8 0, .int .u8 0, .int .u8 0, .int .u8 0, .int .u8 0, .int .u8 0, .int .u8 0, .int .u8 0, .int .u8 0, .int .u8 0, .int .u8 0, .int .u8 0, .int .u8 0, .int .u8 0, .int .u8 0, .int .u8 0, .int .u8 0, .int .u8 0, .int .u8 0, .int .u8 0, .int .u8 0, .int .u8 0, .int .u8 0, .int .u8 0, .int .u8 0, .int .u8 0, .int .u8 0, .int .u8 0, .int .u8 0, .int .u8 0, .int .u8 0, .int .u8 0, .int .u8 0, .int .u8 0, .int .u8 0, .int .u8 0, .int .u8 0, .int .u8 0, .int .u8 0, .int .u8 0, .int .u8 0, .int .u8 0, .int .u8 0, .int .u8 0, .int .u8 0, .int .u8 0, .int .u8 0, .int .u8 0, .int .u8 0, .int .u8 0, .int .u8 0, .int .u8 0, .int .u8 0, .int .u8 0, .int .u8 0, .int .u8 0, .int .u8 0, .int .u8 0, .int .u8 0], .int .i64 3]) (results_row_slot Tryd.results26 _ _ (w.heap.size) _ #[.int .u8 0, .int .u8 0, .int .u8 0, .int .u8 0, .int .u8 0, .int .u8 0, .int .u8 0, .int .u8 0, .int .u8 0, .int .u8 0, .int .u8 0, .int .u8 0, .int .u8 0, .int .u8 0, .int .u8 0, .int .u8 0, .int .u8 0, .int .u8 0, .int .u8 0, .int .u8 0, .int .u8 0, .int .u8 0, .int .u8 0, .int .u8 0, .int .u8 0, .int .u8 0, .int .u8 0, .int .u8 0, .int .u8 0, .int .u8 0, .int .u8 0, .int .u8 0, .int .u8 0, .int .u8 0, .int .u8 0, .int .u8 0, .int .u8 0, .int .u8 0, .int .u8 0, .int .u8 0, .int .u8 0, .int .u8 0, .int .u8 0, .int .u8 0, .int .u8 0, .int .u8 0, .int .u8 0, .int .u8 0, .int .u8 0, .int .u8 0, .int .u8 0, .int .u8 0, .int .u8 0, .int .u8 0, .int .u8 0, .int .u8 0, .int .u8 0, .int .u8 0, .int .u8 0, .int .u8 0, .int .u8 0, .int .u8 0, .int .u8 0, .int .u8 0] _ _ (.int .i64 3) rfl (setRow_heap _ _ _ _ _ _ r0) rfl Tryd.underlying58 rfl (by kernel_rfl)) rfl ⟨rfl, below_setRow hw (Nat.le_refl _) _⟩

end Go.Proofs.YtkogejglfgghmaaDoor


namespace Go.Proofs.YtkogejglfgghmaaDoor
open Go.RowKit Go.Sort
attribute [local go_sem] setCell_drewN alloc_drewN


def zr (k : Nat) : List Int := List.replicate k 0
theorem zr_len (k : Nat) : (zr k).length = k := by simp [zr]
theorem made_brow (n : Nat) : madeCells #[.int .u8 0] n = brow (List.replicate n 0) := by
  apply Array.ext'
  simp only [madeCells, brow, Array.toList_map, Array.toList_range, List.map_replicate]
  apply List.ext_getElem
  · simp
  · intro i h1 h2
    simp [Nat.mod_one]
theorem make_zeros (n : Nat) (h : n ≤ 281474976710656) (W : World) : (Instr.makeSlice 32 (.int .i64 (n : Int)) (.int .i64 (n : Int))).run Tryd.prog W = .ok (.slice (some ⟨W.heap.size, 0, none⟩) n n) (W.alloc (.cells (brow (zr n)) 5)) := by
  unfold zr
  rw [← made_brow]
  exact run_make_row' 32 5 (.int .u8 0) 1 Tryd.underlying32 (by kernel_rfl) rfl .i64 .i64 n (by omega) (by omega) W
theorem ints_one8 (l : List Int) : ∀ u ∈ l.map (Value.int .u8), u.oneCell' = true := by
  intro u hu
  obtain ⟨z, _, rfl⟩ := List.mem_map.1 hu
  rfl
theorem copy_in {W : World} {bs : List Int} {ao : Option Addr} {cap g m : Nat} (hB : Bys W (.slice ao bs.length cap) bs) (hg : W.heap[g]? = some (.cells (brow (zr (bs.length + m))) 5 (0, 0))) :
    (Builtin.copy_ #[32, 32] 3 #[.slice (some ⟨g, 0, none⟩) (bs.length + m) (bs.length + m), .slice ao bs.length cap]).run Tryd.prog W = .ok (goInt bs.length) (W.setRow g (brow (bs ++ zr m))) := by
  unfold zr at *
  obtain ⟨ao', cap', e, _, hc, _⟩ := hB
  cases e
  rcases Nat.eq_zero_or_pos bs.length with h0 | h0
  · have hn : bs = [] := List.eq_nil_of_length_eq_zero h0
    subst hn
    rw [show brow ([] ++ List.replicate m 0) = brow (List.replicate (List.length ([] : List Int) + m) 0) by simp, setRow_same hg]
    exact run_copy_none W 32 32 3 5 _ _ _ _ _ _ Tryd.underlying32 (by kernel_rfl) (by simp)
  · obtain ⟨b, off, rfl, hb, _⟩ := hc 0 h0
    have hsrc : ∀ j u, (bs.map (Value.int .u8))[j]? = some u → W.cell? ((⟨b, off, none⟩ : Addr).add j) = some u := by
      intro j u hu
      have hj : j < bs.length := by have := (List.getElem?_eq_some_iff.1 hu).1; simpa using this
      obtain ⟨b', off', e', _, hcl⟩ := hc j hj
      cases e'
      have : u = .int .u8 (bs.getD j 0) := by
        simp only [List.getElem?_map, List.getElem?_eq_getElem hj, Option.map_some, Option.some.injEq] at hu
        rw [← hu, List.getD_eq_getElem?_getD, List.getElem?_eq_getElem hj]; rfl
      rw [this, addr_add']
      exact hcl
    have hrun := run_copy_row (P := Tryd.prog) W 32 32 3 5 g 0 (bs.length + m) (bs.length + m) ⟨b, off, none⟩ bs.length cap (brow (List.replicate (bs.length + m) 0)) 5 (bs.map (Value.int .u8)) Tryd.underlying32 (by kernel_rfl) hg (by rw [List.length_map]; exact (Nat.min_eq_left (by omega)).symm) hsrc (by simp [brow]) (ints_one8 bs)
    rw [List.length_map] at hrun
    have e : ((brow (List.replicate (bs.length + m) 0)).toList.take 0 ++ bs.map (Value.int .u8) ++ (brow (List.replicate (bs.length + m) 0)).toList.drop (0 + bs.length)).toArray = brow (bs ++ List.replicate m 0) := by
      apply Array.ext'
      simp [brow]
    rw [hrun, e]
/-- The marks behind what is lent. -/
def mk8 (k : Nat) : List Int := (List.range k).map fun (i : Nat) => 100 + (i : Int)
theorem mk8_at (bs : List Int) (k : Nat) (h : k < 80) : (bs ++ mk8 80).getD (bs.length + k) 0 = 100 + (k : Int) := by
  rw [List.getD_eq_getElem?_getD, List.getElem?_append_right (by omega)]
  simp [mk8, h]
theorem in_low (bs : List Int) (k : Nat) (hk : k < bs.length) : (bs ++ mk8 80).getD k 0 = bs.getD k 0 := by
  simp [List.getD_eq_getElem?_getD, List.getElem?_append_left hk]
theorem in_high (bs : List Int) (k : Nat) (hk : ¬ k < bs.length) (hu : k < bs.length + 80) : (bs ++ mk8 80).getD k 0 = 100 + (k : Int) - bs.length := by
  have h2 : k - bs.length < 80 := by omega
  rw [List.getD_eq_getElem?_getD, List.getElem?_append_right (by omega)]
  simp [mk8, h2]
  omega
theorem mk8_len : (mk8 80).length = 80 := by simp [mk8]
/-- The other seed. -/
def rvs (bs : List Int) : List Int := (List.range bs.length).map fun j => bits .xor .u8 (bs.getD (bs.length - 1 - j) 0) 85
theorem rvs_len (bs : List Int) : (rvs bs).length = bs.length := by simp [rvs]
theorem rvs_at (bs : List Int) (j : Nat) (h : j < bs.length) : (rvs bs).getD j 0 = bits .xor .u8 (bs.getD (bs.length - 1 - j) 0) 85 := by
  rw [List.getD_eq_getElem?_getD]
  simp [rvs, h]
theorem xor85 (x : Int) (h : 0 ≤ x ∧ x < 256) : 0 ≤ bits .xor .u8 x 85 ∧ bits .xor .u8 x 85 < 256 := by
  obtain ⟨n, rfl⟩ := Int.eq_ofNat_of_zero_le h.1
  have : ∀ n : Nat, n < 256 → 0 ≤ bits .xor .u8 (n : Int) 85 ∧ bits .xor .u8 (n : Int) 85 < 256 := by decide +kernel
  exact this n (by omega)
theorem getD_bd {bs : List Int} (hz : ∀ z ∈ bs, 0 ≤ z ∧ z < 256) (j : Nat) : 0 ≤ bs.getD j 0 ∧ bs.getD j 0 < 256 := by
  rw [List.getD_eq_getElem?_getD]
  by_cases h : j < bs.length
  · rw [List.getElem?_eq_getElem h]; exact hz _ (List.getElem_mem h)
  · rw [List.getElem?_eq_none (by omega)]; decide
theorem rvs_bd {bs : List Int} (hz : ∀ z ∈ bs, 0 ≤ z ∧ z < 256) : ∀ z ∈ rvs bs, 0 ≤ z ∧ z < 256 := by
  intro z h
  simp only [rvs, List.mem_map] at h
  obtain ⟨j, _, rfl⟩ := h
  exact xor85 _ (getD_bd hz _)
theorem Bys.of_prefix {W : World} {g : Nat} {l r : List Int} {t : TypeId} (hg : W.heap[g]? = some (.cells (brow (l ++ r)) t (0, 0))) (hl : l.length ≤ 9223372036854775807) (hz : ∀ z ∈ l, 0 ≤ z ∧ z < 256) (cap : Nat) : Bys W (.slice (some ⟨g, 0, none⟩) l.length cap) l := by
  refine ⟨_, cap, rfl, hl, fun j hj => ⟨g, 0, rfl, lt_of_row hg, ?_⟩, hz⟩
  rw [Nat.zero_add]
  have := brow_cell hg (k := j) (by simp; omega)
  rwa [show (l ++ r).getD j 0 = l.getD j 0 by simp [List.getD_eq_getElem?_getD, List.getElem?_append_left hj]] at this
/-! Pairs, held against themselves. -/
theorem ints_self (d : Nat) {P : Program} {t e : TypeId} {k : IntKind} {i0 : TypeInfo} {n : Nat} (w : World) (ht : P.underlying t = some (.array n e)) (hu : P.underlying e = some (.int k)) (hi : P.info? e = some i0) (hc : P.cellsOf e = 1)
    (l : List Int) (hl : l.length = n) : (Op.equalIn (d + 2) t (.agg (l.map (Value.int k)).toArray) (.agg (l.map (Value.int k)).toArray)).run P w = .ok true w := by
  rw [run_equalIn_array w (d + 1) _ _ ht hi, hc, run_eqItems_int d w hu hi l l (List.range n) (fun i h => by simp at h; omega)]
  congr 1
  simp
theorem part_agg {P : Program} {t e : TypeId} {n sz : Nat} (w : World) (ht : P.underlying t = some (.array n e)) (hs : (P.info? t).map (·.size) = some sz) (xs : Array Value) (off : Nat) : (part t xs off).run P w = .ok (.agg (xs.extract off (off + sz))) w := by
  have hagg : (isAgg t).run P w = .ok true w := by
    unfold isAgg
    rw [Sem.run_bind, run_underlying ht w]
    rfl
  cases hq : P.info? t with
  | none => simp [hq] at hs
  | some i =>
    have hs' : i.size = sz := by simpa [hq] using hs
    simp [part, Sem.run_bind, hagg, sizeOf, typeInfo, hq, hs']
theorem eqFields_true {P : Program} {d : Nat} {xs ys : Array Value} {f : Field} {fs : List Field} {w : World} {a b : Value} (hn : f.name ≠ "_") (h1 : (part f.type xs f.offset).run P w = .ok a w) (h2 : (part f.type ys f.offset).run P w = .ok b w) (h3 : (Op.equalIn d f.type a b).run P w = .ok true w) :
    (Op.eqFields d xs ys (f :: fs)).run P w = (Op.eqFields d xs ys fs).run P w := by
  simp [Op.eqFields, hn, Sem.run_bind, h1, h2, h3]
theorem pair_self (l : List Int) (hl : l.length = 64) (W : World) : (Op.equalIn 10000 58 (.agg (brow l)) (.agg (brow l))).run Tryd.prog W = .ok true W := by
  obtain ⟨i0, hi⟩ := Option.isSome_iff_exists.1 (show (Tryd.prog.info? 5).isSome = true by kernel_rfl)
  have e1 : (brow l).extract 0 (0 + 32) = ((l.take 32).map (Value.int .u8)).toArray := by
    apply Array.ext'
    simp [brow, List.map_take]
  have e2 : (brow l).extract 32 (32 + 32) = ((l.drop 32).map (Value.int .u8)).toArray := by
    apply Array.ext'
    simp [brow, List.map_drop]
    rw [List.take_of_length_le (by simp; omega)]
  have s1 := ints_self 9997 W Tryd.underlying34 Tryd.underlying5 hi (by kernel_rfl) (l.take 32) (by simp; omega)
  have s2 := ints_self 9997 W Tryd.underlying34 Tryd.underlying5 hi (by kernel_rfl) (l.drop 32) (by simp; omega)
  have p1 := part_agg (P := Tryd.prog) W Tryd.underlying34 key_info (brow l) 0
  have p2 := part_agg (P := Tryd.prog) W Tryd.underlying34 key_info (brow l) 32
  rw [e1] at p1
  rw [e2] at p2
  rw [run_equalIn_struct W 9999 58 _ _ (by kernel_rfl) (by kernel_rfl)]
  have hf : ∃ f0 f1 : Field, (Tryd.prog.fieldsOf 58).toList = [f0, f1] ∧ f0.name ≠ "_" ∧ f1.name ≠ "_" ∧ f0.type = 34 ∧ f1.type = 34 ∧ f0.offset = 0 ∧ f1.offset = 32 := by
    unfold Program.fieldsOf
    rw [Tryd.underlying58]
    exact ⟨_, _, rfl, by decide, by decide, rfl, rfl, rfl, rfl⟩
  obtain ⟨f0, f1, hf, n0, n1, t0, t1, o0, o1⟩ := hf
  rw [hf]
  rw [eqFields_true n0 (by rw [t0, o0]; exact p1) (by rw [t0, o0]; exact p1) (by rw [t0]; exact s1), eqFields_true n1 (by rw [t1, o1]; exact p2) (by rw [t1, o1]; exact p2) (by rw [t1]; exact s2)]
  rfl
theorem pairV_brow (bs : List Int) : ∃ l : List Int, l.length = 64 ∧ pairV bs = brow l := by
  unfold pairV
  by_cases h : bs.length = 32
  · rw [if_pos h]
    exact ⟨[byt (clp (valB bs)) 0, byt (clp (valB bs)) 1, byt (clp (valB bs)) 2, byt (clp (valB bs)) 3, byt (clp (valB bs)) 4, byt (clp (valB bs)) 5, byt (clp (valB bs)) 6, byt (clp (valB bs)) 7, byt (clp (valB bs)) 8, byt (clp (valB bs)) 9, byt (clp (valB bs)) 10, byt (clp (valB bs)) 11, byt (clp (valB bs)) 12, byt (clp (valB bs)) 13, byt (clp (valB bs)) 14, byt (clp (valB bs)) 15, byt (clp (valB bs)) 16, byt (clp (valB bs)) 17, byt (clp (valB bs)) 18, byt (clp (valB bs)) 19, byt (clp (valB bs)) 20, byt (clp (valB bs)) 21, byt (clp (valB bs)) 22, byt (clp (valB bs)) 23, byt (clp (valB bs)) 24, byt (clp (valB bs)) 25, byt (clp (valB bs)) 26, byt (clp (valB bs)) 27, byt (clp (valB bs)) 28, byt (clp (valB bs)) 29, byt (clp (valB bs)) 30, byt (clp (valB bs)) 31, byt (scl (valB bs) 9) 0, byt (scl (valB bs) 9) 1, byt (scl (valB bs) 9) 2, byt (scl (valB bs) 9) 3, byt (scl (valB bs) 9) 4, byt (scl (valB bs) 9) 5, byt (scl (valB bs) 9) 6, byt (scl (valB bs) 9) 7, byt (scl (valB bs) 9) 8, byt (scl (valB bs) 9) 9, byt (scl (valB bs) 9) 10, byt (scl (valB bs) 9) 11, byt (scl (valB bs) 9) 12, byt (scl (valB bs) 9) 13, byt (scl (valB bs) 9) 14, byt (scl (valB bs) 9) 15, byt (scl (valB bs) 9) 16, byt (scl (valB bs) 9) 17, byt (scl (valB bs) 9) 18, byt (scl (valB bs) 9) 19, byt (scl (valB bs) 9) 20, byt (scl (valB bs) 9) 21, byt (scl (valB bs) 9) 22, byt (scl (valB bs) 9) 23, byt (scl (valB bs) 9) 24, byt (scl (valB bs) 9) 25, byt (scl (valB bs) 9) 26, byt (scl (valB bs) 9) 27, byt (scl (valB bs) 9) 28, byt (scl (valB bs) 9) 29, byt (scl (valB bs) 9) 30, byt (scl (valB bs) 9) 31], rfl, rfl⟩
  · rw [if_neg h]
    exact ⟨List.replicate 64 0, rfl, rfl⟩
theorem pairV_self (bs : List Int) (W : World) : (Op.equalIn 10000 58 (.agg (pairV bs)) (.agg (pairV bs))).run Tryd.prog W = .ok true W := by
  obtain ⟨l, hl, e⟩ := pairV_brow bs
  rw [e]
  exact pair_self l hl W
theorem pairV_size (bs : List Int) : (pairV bs).size = 64 := by
  obtain ⟨l, hl, e⟩ := pairV_brow bs
  rw [e]; simp [brow, hl]
theorem pairV_one (bs : List Int) : (pairV bs).all (·.oneCell') = true := by
  obtain ⟨l, hl, e⟩ := pairV_brow bs
  rw [e, Array.all_eq_true_iff_forall_mem]
  intro v hv
  simp only [brow, List.mem_toArray, List.mem_map] at hv
  obtain ⟨z, _, rfl⟩ := hv
  rfl
theorem pairV_info (bs : List Int) : (Tryd.prog.info? 58).map (·.size) = some (pairV bs).size := by rw [pairV_size]; exact pair_info

end Go.Proofs.YtkogejglfgghmaaDoor


namespace Go.Proofs.YtkogejglfgghmaaDoor
open Go.RowKit Go.Sort
attribute [local go_sem] setCell_drewN alloc_drewN


theorem bsc {w : World} {B : Nat} {a : Addr} (h : B ≤ a.block) (v : Value) : Below B w (w.setCell a v) := (Below.refl _ _).setCell h v
theorem cell_re {w : World} {a : Addr} {v : Value} (h : w.cell? a = some v) (p : Regrown) : (grow (redrawn w p.d) p.os).cell? a = some v := cell_regrown h p.d p.os
set_option maxRecDepth 100000 in
set_option maxHeartbeats 8000000 in
theorem pairs_any (bs : List Int) (hz : ∀ z ∈ bs, 0 ≤ z ∧ z < 256) (hl : bs.length + 80 ≤ 281474976710656) (w : World) (ev : Value) (hF : Four w) (hB : Bys w ev bs) :
    Calls Tryd.prog 7 #[ev] w fun e w' => e = .returned (.bool true) ∧ Below w.heap.size w w' := by
  have hB0 := hB
  obtain ⟨ao, cap, rfl, hl9, hc, _⟩ := hB
  have hmk := make_zeros (bs.length + 80) hl w
  rw [show ((bs.length + 80 : Nat) : Int) = (bs.length : Int) + 80 by simp] at hmk
  have hmk2 := make_zeros bs.length (by omega)
  have bA : Below w.heap.size w (w.alloc (.cells (brow (zr (bs.length + 80))) 5)) := (Below.refl _ _).alloc (Nat.le_refl _) _
  have hcp := copy_in (hB0.keep bA) (hp1_0 w (.cells (brow (zr (bs.length + 80))) 5))
  have hself := pairV_self bs
  have hself2 := pairV_self (rvs bs)
  have hap := a_pair bs hz
  have hrp := r_pair bs hz
  have hap2 := a_pair (rvs bs) (rvs_bd hz)
  have hrp2 := r_pair (rvs bs) (rvs_bd hz)
  have hm1 : ∀ k, k < 80 → (bs ++ mk8 80).getD (bs.length + k) 0 = 100 + (k : Int) := fun k hk => mk8_at bs k hk
  have hlow := in_low bs
  have hhigh := in_high bs
  have hvi := pairV_info bs
  have hvs := pairV_size bs
  have hvo := pairV_one bs
  have hvi2 := pairV_info (rvs bs)
  have hvs2 := pairV_size (rvs bs)
  have hvo2 := pairV_one (rvs bs)
  generalize pairV bs = PV at *
  generalize pairE bs = PE at *
  generalize pairV (rvs bs) = PV2 at *
  generalize pairE (rvs bs) = PE2 at *
  have hfz := hF.1
  have R0 : ((w.alloc (.cells (brow (zr (bs.length + 80))) 5)).setRow w.heap.size (brow (bs ++ zr 80))).heap[w.heap.size]? = some (.cells (brow (mix (bs ++ mk8 80) (bs ++ zr 80) bs.length)) 5 (0, 0)) := by
    rw [show mix (bs ++ mk8 80) (bs ++ zr 80) bs.length = bs ++ zr 80 by simp [mix]]
    exact setRow_heap _ _ _ _ _ _ (hp1_0 w _)
  have HW : Below w.heap.size w ((w.alloc (.cells (brow (zr (bs.length + 80))) 5)).setRow w.heap.size (brow (bs ++ zr 80))) := below_setRow bA (Nat.le_refl _) _
  have F4 : Four ((w.alloc (.cells (brow (zr (bs.length + 80))) 5)).setRow w.heap.size (brow (bs ++ zr 80))) := (hF.alloc _).setRow hfz _
  have hL1 : (bs ++ mk8 80).length = (bs ++ zr 80).length := by simp [mk8_len, zr_len]
  have hL2 : (bs ++ zr 80).length = bs.length + 80 := by simp [zr_len]
  have hB1 := hB0
  generalize hlen : bs.length = len at *
  go_enter Tryd.func7, Tryd.ntmps7
  go_wp2
  generalize ((w.alloc (.cells (brow (zr (len + 80))) 5)).setRow w.heap.size (brow (bs ++ zr 80))) = w1 at *
  clear hmk hcp bA
  go_loopw [4] (fun i wr => ∃ k : Nat, k ≤ 80 ∧ i = .int .i64 k ∧ wr.heap[w.heap.size]? = some (.cells (brow (mix (bs ++ mk8 80) (bs ++ zr 80) (len + k))) 5 (0, 0)) ∧ Four wr ∧ Below w.heap.size w wr) (fun i _ => 80 - (intOf i).toNat)
  case atStart => exact ⟨0, by omega, rfl, R0, F4, HW⟩
  case round =>
    clear R0 F4 HW
    obtain ⟨k, hk, rfl, r0, f4, hw⟩ := hrel
    by_cases hlt : k < 80
    · have hd : decide ((k : Int) < 80) = true := by simp; omega
      have hLm : (mix (bs ++ mk8 80) (bs ++ zr 80) (len + k)).length = len + 80 := by rw [mix_length _ _ _ hL1 (by omega), hL2]
      have ck := brow_cell r0 (k := len + k) (by omega)
      have fk := brow_frozen r0 (len + k)
      have hnext := brow_set r0 (len + k) ((bs ++ mk8 80).getD (len + k) 0)
      rw [mix_set _ _ _ hL1 (by omega), hm1 k hlt] at hnext
      generalize (mix (bs ++ mk8 80) (bs ++ zr 80) (len + k)).getD (len + k) 0 = z0 at *
      clear hlow hhigh hap hrp hap2 hrp2 hself hself2 hmk2 hm1
      go_wp2
      go_roundw
      case rel => exact ⟨k + 1, by omega, by go_num, by rw [← Nat.add_assoc]; exact hnext, f4.belowN hfz (bsc (a := ⟨w.heap.size, len + k, none⟩) (Nat.le_refl _) _), hw.setCell (Nat.le_refl _) _⟩
      case measure => simp [intOf]; omega
    · obtain rfl : k = 80 := by omega
      have hd : decide (((80 : Nat) : Int) < 80) = false := by decide
      have hm : mix (bs ++ mk8 80) (bs ++ zr 80) (len + 80) = (bs ++ mk8 80) := by rw [← hL2]; exact mix_all _ _ hL1
      rw [hm] at r0
      clear hm hm1
      have bP : Bys wr (.slice (some ⟨w.heap.size, 0, none⟩) len (len + 80)) bs := by rw [← hlen]; exact Bys.of_prefix r0 (by omega) hz _
      have cP := hap wr _ f4 bP
      clear hap bP
      go_wp2_with (first | fail)
      refine cP.mono ?_
      rintro e w2 ⟨rfl, hb⟩
      replace r0 := keep hb r0
      replace f4 := f4.below hb
      replace hw := Below.after hw hb
      clear hb
      have ra : (w2.alloc (.cells PV 58)).heap[w2.heap.size]? = some (.cells PV 58 (0, 0)) := hp1_0 w2 _
      have hb : Below w2.heap.size w2 (w2.alloc (.cells PV 58)) := (Below.refl _ _).alloc (Nat.le_refl _) _
      have yga_r0 := lt_of_row r0
      replace r0 := keep hb r0
      replace f4 := f4.below hb
      replace hw := Below.after hw hb
      clear hb
      have cR := hrp (w2.alloc (.cells PV 58)) _ (hB1.keep hw)
      clear hrp cP
      go_wp2_with (first | (refine wpList_store_row rfl 58 _ _ rfl (w2.heap.size) PV rfl rfl 58 #[.int .u8 0, .int .u8 0, .int .u8 0, .int .u8 0, .int .u8 0, .int .u8 0, .int .u8 0, .int .u8 0, .int .u8 0, .int .u8 0, .int .u8 0, .int .u8 0, .int .u8 0, .int .u8 0, .int .u8 0, .int .u8 0, .int .u8 0, .int .u8 0, .int .u8 0, .int .u8 0, .int .u8 0, .int .u8 0, .int .u8 0, .int .u8 0, .int .u8 0, .int .u8 0, .int .u8 0, .int .u8 0, .int .u8 0, .int .u8 0, .int .u8 0, .int .u8 0, .int .u8 0, .int .u8 0, .int .u8 0, .int .u8 0, .int .u8 0, .int .u8 0, .int .u8 0, .int .u8 0, .int .u8 0, .int .u8 0, .int .u8 0, .int .u8 0, .int .u8 0, .int .u8 0, .int .u8 0, .int .u8 0, .int .u8 0, .int .u8 0, .int .u8 0, .int .u8 0, .int .u8 0, .int .u8 0, .int .u8 0, .int .u8 0, .int .u8 0, .int .u8 0, .int .u8 0, .int .u8 0, .int .u8 0, .int .u8 0, .int .u8 0, .int .u8 0] (hp1_0 w2 _) hvi hvs.symm hvo ?_; rw [setRow_alloc_new _ _ _ _ _ _ rfl]) | fail)
      generalize (w2.alloc (.cells PV 58)) = w3 at *
      generalize w2.heap.size = ga at *
      refine cR.mono ?_
      rintro e w4 ⟨rfl, hb⟩
      replace r0 := keep hb r0
      replace ra := keep hb ra
      replace f4 := f4.below hb
      replace hw := Below.after hw hb
      clear hb
      have rb : (w4.alloc (.cells PV 58)).heap[w4.heap.size]? = some (.cells PV 58 (0, 0)) := hp1_0 w4 _
      have hb : Below w4.heap.size w4 (w4.alloc (.cells PV 58)) := (Below.refl _ _).alloc (Nat.le_refl _) _
      have ygb_r0 := lt_of_row r0
      have ygb_ra := lt_of_row ra
      replace r0 := keep hb r0
      replace ra := keep hb ra
      replace f4 := f4.below hb
      replace hw := Below.after hw hb
      clear hb
      clear cR
      go_wp2_with (first | (refine wpList_store_row rfl 58 _ _ rfl (w4.heap.size) PV rfl rfl 58 #[.int .u8 0, .int .u8 0, .int .u8 0, .int .u8 0, .int .u8 0, .int .u8 0, .int .u8 0, .int .u8 0, .int .u8 0, .int .u8 0, .int .u8 0, .int .u8 0, .int .u8 0, .int .u8 0, .int .u8 0, .int .u8 0, .int .u8 0, .int .u8 0, .int .u8 0, .int .u8 0, .int .u8 0, .int .u8 0, .int .u8 0, .int .u8 0, .int .u8 0, .int .u8 0, .int .u8 0, .int .u8 0, .int .u8 0, .int .u8 0, .int .u8 0, .int .u8 0, .int .u8 0, .int .u8 0, .int .u8 0, .int .u8 0, .int .u8 0, .int .u8 0, .int .u8 0, .int .u8 0, .int .u8 0, .int .u8 0, .int .u8 0, .int .u8 0, .int .u8 0, .int .u8 0, .int .u8 0, .int .u8 0, .int .u8 0, .int .u8 0, .int .u8 0, .int .u8 0, .int .u8 0, .int .u8 0, .int .u8 0, .int .u8 0, .int .u8 0, .int .u8 0, .int .u8 0, .int .u8 0, .int .u8 0, .int .u8 0, .int .u8 0, .int .u8 0] (hp1_0 w4 _) hvi hvs.symm hvo ?_; rw [setRow_alloc_new _ _ _ _ _ _ rfl]) | fail)
      generalize (w4.alloc (.cells PV 58)) = w5 at *
      generalize w4.heap.size = gb at *
      have hall : ∀ k, k < len + 80 → (bs ++ mk8 80).getD k 0 = (bs ++ mk8 80).getD k 0 := fun _ _ => rfl
      clear hall
      go_loopw [9] (fun i wt => ∃ k : Nat, k ≤ len + 80 ∧ i = .int .i64 k ∧ wt.heap[w.heap.size]? = some (.cells (brow (bs ++ mk8 80)) 5 (0, 0)) ∧ wt.heap[ga]? = some (.cells PV 58 (0, 0)) ∧ wt.heap[gb]? = some (.cells PV 58 (0, 0)) ∧ Four wt ∧ Below w.heap.size w wt) (fun i _ => len + 80 - (intOf i).toNat)
      case atStart => exact ⟨0, by omega, rfl, r0, ra, rb, f4, hw⟩
      case round =>
        clear r0 ra rb f4 hw
        obtain ⟨k, hk, rfl, r0, ra, rb, f4, hw⟩ := hrel
        by_cases hlt : k < len + 80
        · have hd : decide ((k : Int) < (len : Int) + 80) = true := by simp; omega
          have h1 := brow_cell r0 (k := k) (by simp [mk8_len]; omega)
          by_cases hin : k < len
          · obtain ⟨b, off, rfl, hb1, hb2⟩ := hc k hin
            replace hb2 := (hw.cell (p := ⟨b, off + k, none⟩) hb1).trans hb2
            rw [hlow k hin] at h1
            have hd2 : decide ((k : Int) < (len : Int)) = true := by simp; omega
            have hd3 : decide (len ≤ k) = false := decide_eq_false (by omega)
            generalize bs.getD k 0 = z at *
            have k1 := cell_re h1
            have k2 := cell_re hb2
            clear h1 hb2 hc hlow hhigh hap2 hrp2 hself hself2 hmk2
            go_wp2
            refine wp_region_quiet_below (by kernel_rfl) (by kernel_rfl) ?_
            go_big_quiet_step (fail)
            go_big_quiet_step (fail)
            go_big_quiet_step (fail)
            go_big_quiet_step (fail)
            go_big_quiet_step (fail)
            go_big_quiet_step (fail)
            go_big_quiet_step (fail)
            go_big_quiet_step (fail)
            go_big_quiet_step (fail)
            go_big_quiet_step (fail)
            go_big_quiet_step (fail)
            go_big_quiet_step (fail)
            go_big_quiet_step (fail)
            go_big_quiet_step (fail)
            go_big_quiet_step (fail)
            go_big_quiet_step (fail)
            go_big_quiet_step (fail)
            go_big_quiet_step (fail)
            go_big_quiet_step (fail)
            go_big_quiet_step (fail)
            go_big_quiet_step (fail)
            go_big_quiet_step (fail)
            go_big_quiet_step (fail)
            go_big_quiet_step (fail)
            go_big_quiet_step (fail)
            go_big_quiet_step (fail)
            go_big_quiet_step (fail)
            go_big_quiet_step (fail)
            go_big_quiet_step (fail)
            go_big_quiet_step (fail)
            go_big_quiet_step (fail)
            go_big_quiet_step (fail)
            go_big_quiet_step (fail)
            go_big_quiet_step (fail)
            refine wpQuiet_nil ?_
            rintro _ ⟨p, rfl⟩
            have hb := below_regrown wr p.d p.os
            clear k1 k2
            generalize grow (redrawn wr p.d) p.os = w6 at *
            replace r0 := keep hb r0
            replace ra := keep hb ra
            replace rb := keep hb rb
            replace f4 := f4.below hb
            replace hw := Below.after hw hb
            clear hb
            go_wp2
            go_roundw
            case rel => exact ⟨k + 1, by omega, by go_num, r0, ra, rb, f4, hw⟩
            case measure => simp [intOf]; omega
          · rw [hhigh k hin hlt] at h1
            have hd2 : decide ((k : Int) < (len : Int)) = false := by simp; omega
            have hd3 : decide (len ≤ k) = true := decide_eq_true (by omega)
            have k1 := cell_re h1
            clear h1 hc hlow hhigh hap2 hrp2 hself hself2 hmk2
            go_wp2
            refine wp_region_quiet_below (by kernel_rfl) (by kernel_rfl) ?_
            go_big_quiet_step (fail)
            go_big_quiet_step (fail)
            go_big_quiet_step (fail)
            go_big_quiet_step (fail)
            go_big_quiet_step (fail)
            go_big_quiet_step (fail)
            go_big_quiet_step (fail)
            go_big_quiet_step (fail)
            go_big_quiet_step (fail)
            go_big_quiet_step (fail)
            go_big_quiet_step (fail)
            go_big_quiet_step (fail)
            go_big_quiet_step (fail)
            go_big_quiet_step (fail)
            go_big_quiet_step (fail)
            go_big_quiet_step (fail)
            go_big_quiet_step (fail)
            go_big_quiet_step (fail)
            go_big_quiet_step (fail)
            go_big_quiet_step (fail)
            go_big_quiet_step (fail)
            go_big_quiet_step (fail)
            go_big_quiet_step (fail)
            go_big_quiet_step (fail)
            go_big_quiet_step (fail)
            go_big_quiet_step (fail)
            go_big_quiet_step (fail)
            go_big_quiet_step (fail)
            go_big_quiet_step (fail)
            go_big_quiet_step (fail)
            go_big_quiet_step (fail)
            go_big_quiet_step (fail)
            go_big_quiet_step (fail)
            go_big_quiet_step (fail)
            refine wpQuiet_nil ?_
            rintro _ ⟨p, rfl⟩
            have hb := below_regrown wr p.d p.os
            clear k1
            generalize grow (redrawn wr p.d) p.os = w6 at *
            replace r0 := keep hb r0
            replace ra := keep hb ra
            replace rb := keep hb rb
            replace f4 := f4.below hb
            replace hw := Below.after hw hb
            clear hb
            go_wp2
            go_roundw
            case rel => exact ⟨k + 1, by omega, by go_num, r0, ra, rb, f4, hw⟩
            case measure => simp [intOf]; omega
        · obtain rfl : k = len + 80 := by omega
          have hd : decide (((len + 80 : Nat) : Int) < (len : Int) + 80) = false := by simp
          clear hlow hhigh
          go_wp2_with (first | (refine wpList_load_want rfl 58 _ rfl (ga) rfl 58 PV (0, 0) _ ra Tryd.underlying58 rfl hvi ?_) | (refine wpList_load_want rfl 58 _ rfl (gb) rfl 58 PV (0, 0) _ rb Tryd.underlying58 rfl hvi ?_) | fail)
          have rg : (wr.alloc (.cells (brow (zr len)) 5)).heap[wr.heap.size]? = some (.cells (brow (zr len)) 5 (0, 0)) := hp1_0 wr _
          have hb : Below wr.heap.size wr (wr.alloc (.cells (brow (zr len)) 5)) := (Below.refl _ _).alloc (Nat.le_refl _) _
          have yn := lt_of_row r0
          have ya := lt_of_row ra
          have yb := lt_of_row rb
          replace r0 := keep hb r0
          replace ra := keep hb ra
          replace rb := keep hb rb
          replace f4 := f4.below hb
          replace hw := Below.after hw hb
          clear hb
          generalize (wr.alloc (.cells (brow (zr len)) 5)) = w7 at *
          generalize wr.heap.size = g0 at *
          have hM1 : (rvs bs ++ mk8 80).length = (bs ++ mk8 80).length := by simp [rvs_len]
          have hM2 : (bs ++ mk8 80).length = len + 80 := by simp [mk8_len, hlen]
          have hM3 : (rvs bs).length = (zr len).length := by rw [rvs_len, zr_len, hlen]
          have hM4 := zr_len len
          have hRl : (rvs bs).length = len := by rw [rvs_len, hlen]
          have hxx : ∀ k, k < len → (rvs bs).getD k 0 = bits .xor .u8 (bs.getD (len - 1 - k) 0) 85 := fun k hk => by have := rvs_at bs k (by omega); rwa [hlen] at this
          have hxy : ∀ k, k < len → (rvs bs ++ mk8 80).getD k 0 = (rvs bs).getD k 0 := fun k hk => by simp [List.getD_eq_getElem?_getD, List.getElem?_append_left (show k < (rvs bs).length by omega)]
          have hne : ¬ g0 = w.heap.size := by omega
          have hne' : ¬ w.heap.size = g0 := by omega
          go_loopw [11] (fun i wr => ∃ k : Nat, k ≤ len ∧ i = .int .i64 k ∧ wr.heap[w.heap.size]? = some (.cells (brow (mix (rvs bs ++ mk8 80) (bs ++ mk8 80) k)) 5 (0, 0)) ∧ wr.heap[g0]? = some (.cells (brow (mix (rvs bs) (zr len) k)) 5 (0, 0)) ∧ wr.heap[ga]? = some (.cells PV 58 (0, 0)) ∧ wr.heap[gb]? = some (.cells PV 58 (0, 0)) ∧ Four wr ∧ Below w.heap.size w wr) (fun i _ => len - (intOf i).toNat)
          case atStart => exact ⟨0, by omega, rfl, by rw [mix_zero]; exact r0, by rw [mix_zero]; exact rg, ra, rb, f4, hw⟩
          case round =>
            clear r0 rg ra rb f4 hw
            obtain ⟨k, hk, rfl, r0, rg, ra, rb, f4, hw⟩ := hrel
            by_cases hlt : k < len
            · have hd2 : decide ((k : Int) < (len : Int)) = true := by simp; omega
              obtain ⟨b, off, rfl, hb1, hb2⟩ := hc (len - 1 - k) (by omega)
              replace hb2 := (hw.cell (p := ⟨b, off + (len - 1 - k), none⟩) hb1).trans hb2
              have hz2 := getD_bd hz (len - 1 - k)
              have L1 : (mix (rvs bs ++ mk8 80) (bs ++ mk8 80) k).length = len + 80 := by rw [mix_length _ _ _ hM1 (by omega), hM2]
              have L2 : (mix (rvs bs) (zr len) k).length = len := by rw [mix_length _ _ _ hM3 (by omega), hM4]
              have c1 := brow_cell r0 (k := k) (by omega)
              have z1 := brow_frozen r0 k
              have c2 := brow_cell rg (k := k) (by omega)
              have z2 := brow_frozen rg k
              have n2 := brow_set rg k ((rvs bs).getD k 0)
              rw [mix_set _ _ _ hM3 (by omega), hxx k hlt] at n2
              have n1 := brow_set (W := wr.setCell ⟨g0, k, none⟩ (.int .u8 (bits .xor .u8 (bs.getD (len - 1 - k) 0) 85))) ((heap_setCell_other _ _ _ _ hne').trans r0) k ((rvs bs ++ mk8 80).getD k 0)
              rw [mix_set _ _ _ hM1 (by omega), hxy k hlt, hxx k hlt] at n1
              have n3 := (heap_setCell_other (wr.setCell ⟨g0, k, none⟩ (.int .u8 (bits .xor .u8 (bs.getD (len - 1 - k) 0) 85))) ⟨w.heap.size, k, none⟩ g0 (.int .u8 (bits .xor .u8 (bs.getD (len - 1 - k) 0) 85)) hne).trans n2
              generalize (mix (rvs bs ++ mk8 80) (bs ++ mk8 80) k).getD k 0 = y1 at *
              generalize (mix (rvs bs) (zr len) k).getD k 0 = y2 at *
              generalize bs.getD (len - 1 - k) 0 = z at *
              clear hc hap2 hrp2 hself hself2 hmk2 hxx hxy r0 rg n2
              go_wp2
              go_roundw
              case rel => exact ⟨k + 1, by omega, by go_num, n1, n3, (heap_setCell_other _ _ _ _ (by simp; omega)).trans ((heap_setCell_other _ _ _ _ (by simp; omega)).trans ra), (heap_setCell_other _ _ _ _ (by simp; omega)).trans ((heap_setCell_other _ _ _ _ (by simp; omega)).trans rb), f4.belowN hfz ((bsc (a := ⟨g0, k, none⟩) (Nat.le_of_lt yn) _).setCell (Nat.le_refl _) _), (hw.setCell (Nat.le_of_lt yn) _).setCell (Nat.le_refl _) _⟩
              case measure => simp [intOf]; omega
            · obtain rfl : k = len := by omega
              have hd2 : decide ((k : Int) < (k : Int)) = false := by simp
              have hm3 : mix (rvs bs ++ mk8 80) (bs ++ mk8 80) k = (rvs bs ++ mk8 80) := by
                unfold mix
                rw [List.take_left' hRl, List.drop_left' hlen]
              have hm4 : mix (rvs bs) (zr k) k = rvs bs := by have := mix_all (rvs bs) (zr k) hM3; rwa [hM4] at this
              rw [hm3] at r0
              rw [hm4] at rg
              have bP : Bys wr (.slice (some ⟨w.heap.size, 0, none⟩) k (k + 80)) (rvs bs) := by have := Bys.of_prefix r0 (by omega) (rvs_bd hz) (k + 80); rwa [hRl] at this
              have cP := hap2 wr _ f4 bP
              clear hap2 bP hm3 hm4 hxx hxy
              go_wp2_with (first | fail)
              refine cP.mono ?_
              rintro e w8 ⟨rfl, hb⟩
              replace rg := keep hb rg
              replace ra := keep hb ra
              replace rb := keep hb rb
              replace f4 := f4.below hb
              replace hw := Below.after hw hb
              clear hb cP
              have rg2 := (setRow_other w8 ga g0 PV2 (by omega)).trans rg
              have ra2 := setRow_heap w8 ga _ PV2 _ _ ra
              have rb2 := (setRow_other w8 ga gb PV2 (by omega)).trans rb
              have hw2 := below_setRow hw (show w.heap.size ≤ ga by omega) PV2
              have bO : Bys (w8.setRow ga PV2) (.slice (some ⟨g0, 0, none⟩) k k) (rvs bs) := by have := Bys.of_row rg2 (by omega) (rvs_bd hz) k; rwa [hRl] at this
              have cR := hrp2 (w8.setRow ga PV2) _ bO
              go_wp2_with (first | (refine wpList_store_row rfl 58 _ _ rfl (ga) PV2 rfl rfl 58 _ ra hvi2 (hvs.trans hvs2.symm) hvo2 ?_) | fail)
              generalize (w8.setRow ga PV2) = w9 at *
              clear ra rb rg hw bO hrp2 f4 w8
              refine cR.mono ?_
              rintro e w10 ⟨rfl, hb⟩
              have ra := keep hb ra2
              have rb := keep hb rb2
              have hw := Below.after hw2 hb
              have ra3 := (setRow_other w10 gb ga PV2 (by omega)).trans ra
              have rb3 := setRow_heap w10 gb _ PV2 _ _ rb
              have hw3 := below_setRow hw (show w.heap.size ≤ gb by omega) PV2
              clear hb ra2 rb2 hw2 cR
              go_wp2_with (first | (refine wpList_store_row rfl 58 _ _ rfl (gb) PV2 rfl rfl 58 _ rb hvi2 (hvs.trans hvs2.symm) hvo2 ?_) | (refine wpList_load_want rfl 58 _ rfl (ga) rfl 58 PV2 (0, 0) _ ra3 Tryd.underlying58 rfl hvi2 ?_) | (refine wpList_load_want rfl 58 _ rfl (gb) rfl 58 PV2 (0, 0) _ rb3 Tryd.underlying58 rfl hvi2 ?_) | fail)
              go_ret
              exact ⟨by simp, hw3⟩

end Go.Proofs.YtkogejglfgghmaaDoor

