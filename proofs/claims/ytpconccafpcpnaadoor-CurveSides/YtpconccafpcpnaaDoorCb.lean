import Derived.Test.YtpconccafpcpnaaDoorProg
import Derived.WalkKit
import Derived.WalkSpells
import Derived.WalkLawsBesides
import Derived.Lib.QuietBelow
import Derived.BigQuiet
import Derived.Test.YtpconccafpcpnaaDoorKa
import Derived.Test.YtpconccafpcpnaaDoorCa
import Derived.Test.YtpconccafpcpnaaDoorAe
namespace Go.Proofs.YtpconccafpcpnaaDoor
set_option maxRecDepth 100000
open Go.RowKit Go.Sort
attribute [local go_sem] setCell_drewN alloc_drewN


theorem key_zero : KeyOf #[.int .u8 0, .int .u8 0, .int .u8 0, .int .u8 0, .int .u8 0, .int .u8 0, .int .u8 0, .int .u8 0, .int .u8 0, .int .u8 0, .int .u8 0, .int .u8 0, .int .u8 0, .int .u8 0, .int .u8 0, .int .u8 0, .int .u8 0, .int .u8 0, .int .u8 0, .int .u8 0, .int .u8 0, .int .u8 0, .int .u8 0, .int .u8 0, .int .u8 0, .int .u8 0, .int .u8 0, .int .u8 0, .int .u8 0, .int .u8 0, .int .u8 0, .int .u8 0] 0 := ⟨0, 0, 0, 0, 0, 0, 0, 0, 0, 0, 0, 0, 0, 0, 0, 0, 0, 0, 0, 0, 0, 0, 0, 0, 0, 0, 0, 0, 0, 0, 0, 0, rfl, by decide, rfl⟩
theorem scl_bd (K U : Int) : 0 ≤ scl K U ∧ scl K U < 115792089237316195423570985008687907853269984665640564039457584007913129639936 := ⟨(scn_bd _ _).1, Int.lt_trans (scn_bd _ _).2 (by decide)⟩


set_option maxHeartbeats 4000000 in
set_option maxRecDepth 10000 in
theorem r_clamp {r : Array Value} {N : Int} (h : KeyOf r N) : Gives 61 #[.agg r] (.agg (kb (clp N))) := by
  have q0 : r[0]? = some (.int .u8 (byt N 0)) := by rw [key_kb h]; rfl
  have q31 : r[31]? = some (.int .u8 (byt N 31)) := by rw [key_kb h]; rfl
  have hs := h.size
  have hE := clp_cells h
  have b0 := byt_bd N 0
  have b31 := byt_bd N 31
  have hk : KeyOf (kb (clp N)) (clp N) := kb_key _ (clp_bd N).1 (Int.lt_trans (clp_bd N).2 (by decide))
  have hi := h.info
  have ho := h.one
  clear h
  skip
  skip
  generalize byt N 0 = k0 at *
  generalize byt N 31 = k31 at *
  generalize kb (clp N) = r' at *
  generalize clp N = N' at *
  intro w
  have r0 := hp2_0 w (.cells r 34) (.cells #[.int .u8 0, .int .u8 0, .int .u8 0, .int .u8 0, .int .u8 0, .int .u8 0, .int .u8 0, .int .u8 0, .int .u8 0, .int .u8 0, .int .u8 0, .int .u8 0, .int .u8 0, .int .u8 0, .int .u8 0, .int .u8 0, .int .u8 0, .int .u8 0, .int .u8 0, .int .u8 0, .int .u8 0, .int .u8 0, .int .u8 0, .int .u8 0, .int .u8 0, .int .u8 0, .int .u8 0, .int .u8 0, .int .u8 0, .int .u8 0, .int .u8 0, .int .u8 0] 34)
  have r1 := hp2_1 w (.cells r 34) (.cells #[.int .u8 0, .int .u8 0, .int .u8 0, .int .u8 0, .int .u8 0, .int .u8 0, .int .u8 0, .int .u8 0, .int .u8 0, .int .u8 0, .int .u8 0, .int .u8 0, .int .u8 0, .int .u8 0, .int .u8 0, .int .u8 0, .int .u8 0, .int .u8 0, .int .u8 0, .int .u8 0, .int .u8 0, .int .u8 0, .int .u8 0, .int .u8 0, .int .u8 0, .int .u8 0, .int .u8 0, .int .u8 0, .int .u8 0, .int .u8 0, .int .u8 0, .int .u8 0] 34)
  have hw : Below w.heap.size w ((w.alloc (.cells r 34)).alloc (.cells #[.int .u8 0, .int .u8 0, .int .u8 0, .int .u8 0, .int .u8 0, .int .u8 0, .int .u8 0, .int .u8 0, .int .u8 0, .int .u8 0, .int .u8 0, .int .u8 0, .int .u8 0, .int .u8 0, .int .u8 0, .int .u8 0, .int .u8 0, .int .u8 0, .int .u8 0, .int .u8 0, .int .u8 0, .int .u8 0, .int .u8 0, .int .u8 0, .int .u8 0, .int .u8 0, .int .u8 0, .int .u8 0, .int .u8 0, .int .u8 0, .int .u8 0, .int .u8 0] 34)) := ((Below.refl _ _).alloc (Nat.le_refl _) _).alloc (by simp) _
  go_enter Tryd.func61, Tryd.ntmps61
  iterate 9 go_step
  generalize ((w.alloc (.cells r 34)).alloc (.cells #[.int .u8 0, .int .u8 0, .int .u8 0, .int .u8 0, .int .u8 0, .int .u8 0, .int .u8 0, .int .u8 0, .int .u8 0, .int .u8 0, .int .u8 0, .int .u8 0, .int .u8 0, .int .u8 0, .int .u8 0, .int .u8 0, .int .u8 0, .int .u8 0, .int .u8 0, .int .u8 0, .int .u8 0, .int .u8 0, .int .u8 0, .int .u8 0, .int .u8 0, .int .u8 0, .int .u8 0, .int .u8 0, .int .u8 0, .int .u8 0, .int .u8 0, .int .u8 0] 34)) = w0 at *
  have c0 : w0.cell? ⟨w.heap.size, 0, none⟩ = some (.int .u8 k0) := (cell_of_row _ _ _ _ _ _ r0).trans q0
  have c31 : w0.cell? ⟨w.heap.size, 31, none⟩ = some (.int .u8 k31) := (cell_of_row _ _ _ _ _ _ r0).trans q31
  have f0 : w0.frozen? ⟨w.heap.size, 0, none⟩ = false := by simp [World.frozen?, r0]
  have f31 : w0.frozen? ⟨w.heap.size, 31, none⟩ = false := by simp [World.frozen?, r0]
  have R0 : ((w0.setCell ⟨w.heap.size, 0, none⟩ (.int .u8 (k0 / 8 * 8))).setCell ⟨w.heap.size, 31, none⟩ (.int .u8 (k31 % 64 + 64))).heap[w.heap.size]? = some (.cells r' 34 (0, 0)) := by rw [← hE]; exact heap_setCell_same _ _ _ _ _ _ (heap_setCell_same _ _ _ _ _ _ r0)
  have R1 : ((w0.setCell ⟨w.heap.size, 0, none⟩ (.int .u8 (k0 / 8 * 8))).setCell ⟨w.heap.size, 31, none⟩ (.int .u8 (k31 % 64 + 64))).heap[w.heap.size + 1]? = some (.cells #[.int .u8 0, .int .u8 0, .int .u8 0, .int .u8 0, .int .u8 0, .int .u8 0, .int .u8 0, .int .u8 0, .int .u8 0, .int .u8 0, .int .u8 0, .int .u8 0, .int .u8 0, .int .u8 0, .int .u8 0, .int .u8 0, .int .u8 0, .int .u8 0, .int .u8 0, .int .u8 0, .int .u8 0, .int .u8 0, .int .u8 0, .int .u8 0, .int .u8 0, .int .u8 0, .int .u8 0, .int .u8 0, .int .u8 0, .int .u8 0, .int .u8 0, .int .u8 0] 34 (0, 0)) := (heap_setCell_other _ _ _ _ (by simp)).trans ((heap_setCell_other _ _ _ _ (by simp)).trans r1)
  have hw2 : Below w.heap.size w ((w0.setCell ⟨w.heap.size, 0, none⟩ (.int .u8 (k0 / 8 * 8))).setCell ⟨w.heap.size, 31, none⟩ (.int .u8 (k31 % 64 + 64))) := (hw.setCell (Nat.le_refl _) _).setCell (Nat.le_refl _) _
  go_wp2_with (first | (refine wpList_load_want rfl 34 _ rfl (w.heap.size) rfl 34 r' (0, 0) _ R0 Tryd.underlying34 rfl hk.info ?_) | (refine wpList_store_row rfl 34 _ _ rfl (w.heap.size + 1) r' rfl rfl 34 _ R1 hk.info hk.size.symm hk.one ?_) | fail)
  exact bodyPost_ret (v := .agg r') (results_cell_row Tryd.results61 _ _ (w.heap.size + 1) _ r' _ _ rfl (setRow_heap _ _ _ _ _ _ R1) Tryd.underlying34 rfl hk.info) rfl ⟨rfl, below_setRow hw2 (by omega) _⟩


set_option maxHeartbeats 4000000 in
set_option maxRecDepth 10000 in
theorem a_clamp {r : Array Value} {N : Int} (h : KeyOf r N) : Gives 58 #[.agg r] (.agg (kb (clp N))) := by
  have q0 : r[0]? = some (.int .u8 (byt N 0)) := by rw [key_kb h]; rfl
  have q31 : r[31]? = some (.int .u8 (byt N 31)) := by rw [key_kb h]; rfl
  have hs := h.size
  have hE := clp_cells h
  have b0 := byt_bd N 0
  have b31 := byt_bd N 31
  have hk : KeyOf (kb (clp N)) (clp N) := kb_key _ (clp_bd N).1 (Int.lt_trans (clp_bd N).2 (by decide))
  have hi := h.info
  have ho := h.one
  clear h
  have e0 := and248 (byt N 0) b0
  have e31 := clamp31 (byt N 31) b31
  generalize byt N 0 = k0 at *
  generalize byt N 31 = k31 at *
  generalize kb (clp N) = r' at *
  generalize clp N = N' at *
  intro w
  have r0 := hp2_0 w (.cells r 34) (.cells #[.int .u8 0, .int .u8 0, .int .u8 0, .int .u8 0, .int .u8 0, .int .u8 0, .int .u8 0, .int .u8 0, .int .u8 0, .int .u8 0, .int .u8 0, .int .u8 0, .int .u8 0, .int .u8 0, .int .u8 0, .int .u8 0, .int .u8 0, .int .u8 0, .int .u8 0, .int .u8 0, .int .u8 0, .int .u8 0, .int .u8 0, .int .u8 0, .int .u8 0, .int .u8 0, .int .u8 0, .int .u8 0, .int .u8 0, .int .u8 0, .int .u8 0, .int .u8 0] 34)
  have r1 := hp2_1 w (.cells r 34) (.cells #[.int .u8 0, .int .u8 0, .int .u8 0, .int .u8 0, .int .u8 0, .int .u8 0, .int .u8 0, .int .u8 0, .int .u8 0, .int .u8 0, .int .u8 0, .int .u8 0, .int .u8 0, .int .u8 0, .int .u8 0, .int .u8 0, .int .u8 0, .int .u8 0, .int .u8 0, .int .u8 0, .int .u8 0, .int .u8 0, .int .u8 0, .int .u8 0, .int .u8 0, .int .u8 0, .int .u8 0, .int .u8 0, .int .u8 0, .int .u8 0, .int .u8 0, .int .u8 0] 34)
  have hw : Below w.heap.size w ((w.alloc (.cells r 34)).alloc (.cells #[.int .u8 0, .int .u8 0, .int .u8 0, .int .u8 0, .int .u8 0, .int .u8 0, .int .u8 0, .int .u8 0, .int .u8 0, .int .u8 0, .int .u8 0, .int .u8 0, .int .u8 0, .int .u8 0, .int .u8 0, .int .u8 0, .int .u8 0, .int .u8 0, .int .u8 0, .int .u8 0, .int .u8 0, .int .u8 0, .int .u8 0, .int .u8 0, .int .u8 0, .int .u8 0, .int .u8 0, .int .u8 0, .int .u8 0, .int .u8 0, .int .u8 0, .int .u8 0] 34)) := ((Below.refl _ _).alloc (Nat.le_refl _) _).alloc (by simp) _
  go_enter Tryd.func58, Tryd.ntmps58
  iterate 9 go_step
  generalize ((w.alloc (.cells r 34)).alloc (.cells #[.int .u8 0, .int .u8 0, .int .u8 0, .int .u8 0, .int .u8 0, .int .u8 0, .int .u8 0, .int .u8 0, .int .u8 0, .int .u8 0, .int .u8 0, .int .u8 0, .int .u8 0, .int .u8 0, .int .u8 0, .int .u8 0, .int .u8 0, .int .u8 0, .int .u8 0, .int .u8 0, .int .u8 0, .int .u8 0, .int .u8 0, .int .u8 0, .int .u8 0, .int .u8 0, .int .u8 0, .int .u8 0, .int .u8 0, .int .u8 0, .int .u8 0, .int .u8 0] 34)) = w0 at *
  have c0 : w0.cell? ⟨w.heap.size, 0, none⟩ = some (.int .u8 k0) := (cell_of_row _ _ _ _ _ _ r0).trans q0
  have c31 : w0.cell? ⟨w.heap.size, 31, none⟩ = some (.int .u8 k31) := (cell_of_row _ _ _ _ _ _ r0).trans q31
  have f0 : w0.frozen? ⟨w.heap.size, 0, none⟩ = false := by simp [World.frozen?, r0]
  have f31 : w0.frozen? ⟨w.heap.size, 31, none⟩ = false := by simp [World.frozen?, r0]
  have R0 : ((w0.setCell ⟨w.heap.size, 0, none⟩ (.int .u8 (k0 / 8 * 8))).setCell ⟨w.heap.size, 31, none⟩ (.int .u8 (k31 % 64 + 64))).heap[w.heap.size]? = some (.cells r' 34 (0, 0)) := by rw [← hE]; exact heap_setCell_same _ _ _ _ _ _ (heap_setCell_same _ _ _ _ _ _ r0)
  have R1 : ((w0.setCell ⟨w.heap.size, 0, none⟩ (.int .u8 (k0 / 8 * 8))).setCell ⟨w.heap.size, 31, none⟩ (.int .u8 (k31 % 64 + 64))).heap[w.heap.size + 1]? = some (.cells #[.int .u8 0, .int .u8 0, .int .u8 0, .int .u8 0, .int .u8 0, .int .u8 0, .int .u8 0, .int .u8 0, .int .u8 0, .int .u8 0, .int .u8 0, .int .u8 0, .int .u8 0, .int .u8 0, .int .u8 0, .int .u8 0, .int .u8 0, .int .u8 0, .int .u8 0, .int .u8 0, .int .u8 0, .int .u8 0, .int .u8 0, .int .u8 0, .int .u8 0, .int .u8 0, .int .u8 0, .int .u8 0, .int .u8 0, .int .u8 0, .int .u8 0, .int .u8 0] 34 (0, 0)) := (heap_setCell_other _ _ _ _ (by simp)).trans ((heap_setCell_other _ _ _ _ (by simp)).trans r1)
  have hw2 : Below w.heap.size w ((w0.setCell ⟨w.heap.size, 0, none⟩ (.int .u8 (k0 / 8 * 8))).setCell ⟨w.heap.size, 31, none⟩ (.int .u8 (k31 % 64 + 64))) := (hw.setCell (Nat.le_refl _) _).setCell (Nat.le_refl _) _
  go_wp2_with (first | (refine wpList_load_want rfl 34 _ rfl (w.heap.size) rfl 34 r' (0, 0) _ R0 Tryd.underlying34 rfl hk.info ?_) | (refine wpList_store_row rfl 34 _ _ rfl (w.heap.size + 1) r' rfl rfl 34 _ R1 hk.info hk.size.symm hk.one ?_) | fail)
  exact bodyPost_ret (v := .agg r') (results_cell_row Tryd.results58 _ _ (w.heap.size + 1) _ r' _ _ rfl (setRow_heap _ _ _ _ _ _ R1) Tryd.underlying34 rfl hk.info) rfl ⟨rfl, below_setRow hw2 (by omega) _⟩

end Go.Proofs.YtpconccafpcpnaaDoor

