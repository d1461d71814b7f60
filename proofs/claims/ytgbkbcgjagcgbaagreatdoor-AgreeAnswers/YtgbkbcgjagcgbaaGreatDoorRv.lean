import Derived.Test.YtgbkbcgjagcgbaaGreatDoorProg
import Derived.WalkKit
import Derived.WalkSpells
import Derived.WalkLawsBesides
import Derived.Lib.QuietBelow
import Derived.BigQuiet
import Derived.Test.YtgbkbcgjagcgbaaGreatDoorKa
import Derived.Test.YtgbkbcgjagcgbaaGreatDoorGpr
import Derived.Test.YtgbkbcgjagcgbaaGreatDoorRi
import Derived.Test.YtgbkbcgjagcgbaaGreatDoorKim
namespace Go.Proofs.YtgbkbcgjagcgbaaGreatDoor.Lo
set_option maxRecDepth 100000
open Go.RowKit Go.Sort
attribute [local go_sem] setCell_drewN alloc_drewN
theorem bval_n255 : bval ((nl 255).set 0 (255 - (21 - 1))) = 57896044618658097711785492504343953926634992332820282019728792003956564819947 := by decide +kernel
set_option maxRecDepth 100000 in
set_option maxHeartbeats 2000000 in
theorem r_invert {m : Int} (h : inP m) : Gives 59 #[.agg (rd m)] (.agg (rd (m ^ 57896044618658097711785492504343953926634992332820282019728792003956564819947 % prm))) := by
 generalize hq : m ^ 57896044618658097711785492504343953926634992332820282019728792003956564819947 % prm = q
 have c4 := r_power h ((nl 255).set 0 (255 - (21 - 1)))
 rw [bval_n255, hq] at c4
 clear hq
 intro w
 go_enter Tryz.func59, Tryz.ntmps59
 go_wp2
 have rp0 : ((w.alloc (.cells (rd m) 101)).alloc (.cells #[.int .u64 0, .int .u64 0, .int .u64 0, .int .u64 0, .int .u64 0, .int .u64 0, .int .u64 0, .int .u64 0, .int .u64 0, .int .u64 0, .int .u64 0, .int .u64 0, .int .u64 0, .int .u64 0, .int .u64 0, .int .u64 0] 101)).heap[w.heap.size]? = some (.cells (rd m) 101 (0, 0)) := hp2_0 w _ _
 have rp1 : ((w.alloc (.cells (rd m) 101)).alloc (.cells #[.int .u64 0, .int .u64 0, .int .u64 0, .int .u64 0, .int .u64 0, .int .u64 0, .int .u64 0, .int .u64 0, .int .u64 0, .int .u64 0, .int .u64 0, .int .u64 0, .int .u64 0, .int .u64 0, .int .u64 0, .int .u64 0] 101)).heap[w.heap.size + 1]? = some (.cells #[.int .u64 0, .int .u64 0, .int .u64 0, .int .u64 0, .int .u64 0, .int .u64 0, .int .u64 0, .int .u64 0, .int .u64 0, .int .u64 0, .int .u64 0, .int .u64 0, .int .u64 0, .int .u64 0, .int .u64 0, .int .u64 0] 101 (0, 0)) := hp2_1 w _ _
 have hw : Below w.heap.size w ((w.alloc (.cells (rd m) 101)).alloc (.cells #[.int .u64 0, .int .u64 0, .int .u64 0, .int .u64 0, .int .u64 0, .int .u64 0, .int .u64 0, .int .u64 0, .int .u64 0, .int .u64 0, .int .u64 0, .int .u64 0, .int .u64 0, .int .u64 0, .int .u64 0, .int .u64 0] 101)) := (((Below.refl _ _).alloc (Nat.le_refl _) _).alloc (by simp) _)
 generalize ((w.alloc (.cells (rd m) 101)).alloc (.cells #[.int .u64 0, .int .u64 0, .int .u64 0, .int .u64 0, .int .u64 0, .int .u64 0, .int .u64 0, .int .u64 0, .int .u64 0, .int .u64 0, .int .u64 0, .int .u64 0, .int .u64 0, .int .u64 0, .int .u64 0, .int .u64 0] 101)) = w0 at *
 refine wp_region_any (by kernel_rfl) ?_
 have hb : Below w0.heap.size w0 { w0 with drawn := w0.drawn + 1 } := ⟨rfl, rfl, rfl, Nat.le_refl _, fun _ _ => rfl⟩
 generalize ({ w0 with drawn := w0.drawn + 1 } : World) = w1 at *
 replace rp0 := keep hb rp0
 replace rp1 := keep hb rp1
 replace hw := Below.after hw hb
 clear hb
 refine wpAny_ready (rs := [0, 1]) (fuel := 3) (by kernel_rfl) (by simp) (AllReady.cons rfl (fun K' hK => ?_) (AllReady.cons rfl (fun K' hK => ?_) AllReady.nil))
 · skip
   rw [if_pos (by kernel_rfl)]
   simp only [List.getElem_toArray, List.getElem_cons_zero]
   refine wp_load_row 101 _ rfl (w.heap.size) rfl 101 (rd m) (0, 0) _ rp0 Tryz.underlying101 rfl (rd_info m) (hK _ _ ?_)
   simp only [Act.put, List.setIfInBounds_toArray, List.set_cons_succ, List.set_cons_zero]
   clear hK
   refine wpAny_ready (rs := [1]) (fuel := 2) (by kernel_rfl) (by simp) (AllReady.cons rfl (fun K' hK => ?_) AllReady.nil)
   rw [if_pos (by kernel_rfl)]
   simp only [List.getElem_toArray, List.getElem_cons_succ, List.getElem_cons_zero]
   refine wp_call_ex (f := 84) (args := #[.int .i64 255, .int .i64 21]) (by kernel_rfl) (number_walk 255 21 (by decide) (by decide) (by decide) (by decide) w1) (fun v2 w2 ⟨hBv2, hb⟩ => hK _ _ ?_)
   simp only [Act.put, List.setIfInBounds_toArray, List.set_cons_succ, List.set_cons_zero]
   clear hK
   replace rp0 := keep hb rp0
   replace rp1 := keep hb rp1
   replace hw := Below.after hw hb
   clear hb
   refine wpAny_ready (rs := [2]) (fuel := 1) (by kernel_rfl) (by simp) (AllReady.cons rfl (fun K' hK => ?_) AllReady.nil)
   rw [if_pos (by kernel_rfl)]
   simp only [List.getElem_toArray, List.getElem_cons_succ, List.getElem_cons_zero]
   refine wp_call_op (f := 83) (args := #[.agg (rd m), v2]) (by kernel_rfl) (c4 _ _ hBv2) (fun w3 hb => hK _ _ ?_)
   simp only [Act.put, List.setIfInBounds_toArray, List.set_cons_succ, List.set_cons_zero]
   clear hK
   replace rp0 := keep hb rp0
   replace rp1 := keep hb rp1
   replace hw := Below.after hw hb
   replace hBv2 := hBv2.keep hb
   clear hb
   refine wpAny_ready (rs := [3]) (fuel := 0) (by kernel_rfl) (by simp) (AllReady.cons rfl (fun K' hK => ?_) AllReady.nil)
   rw [if_pos (by kernel_rfl)]
   simp only [List.getElem_toArray, List.getElem_cons_succ, List.getElem_cons_zero]
   refine wp_store_row 101 _ _ rfl (w.heap.size + 1) (rd q) rfl rfl 101 _ rp1 (rd_info q) ((rd_size 0).trans (rd_size q).symm) (rd_one q) (hK _ _ ?_)
   simp only [Act.put]
   clear hK
   replace rp0 := (setRow_other w3 (w.heap.size + 1) (w.heap.size) (rd q) (by first | assumption | omega)).trans rp0
   replace rp1 := setRow_heap w3 (w.heap.size + 1) _ (rd q) _ _ rp1
   replace hw := below_setRow hw (show w.heap.size ≤ w.heap.size + 1 by first | assumption | omega) (rd q)
   generalize w3.setRow (w.heap.size + 1) (rd q) = w5 at *
   refine wpAny_done (by kernel_rfl) ?_ _
   go_wp2
   exact bodyPost_ret (v := .agg (rd q)) (results_cell_row Tryz.results59 _ _ (w.heap.size + 1) _ (rd q) _ _ rfl rp1 Tryz.underlying101 rfl (rd_info q)) rfl ⟨rfl, hw⟩
 · skip
   rw [if_pos (by kernel_rfl)]
   simp only [List.getElem_toArray, List.getElem_cons_succ, List.getElem_cons_zero]
   refine wp_call_ex (f := 84) (args := #[.int .i64 255, .int .i64 21]) (by kernel_rfl) (number_walk 255 21 (by decide) (by decide) (by decide) (by decide) w1) (fun v6 w6 ⟨hBv6, hb⟩ => hK _ _ ?_)
   simp only [Act.put, List.setIfInBounds_toArray, List.set_cons_succ, List.set_cons_zero]
   clear hK
   replace rp0 := keep hb rp0
   replace rp1 := keep hb rp1
   replace hw := Below.after hw hb
   clear hb
   refine wpAny_ready (rs := [0]) (fuel := 2) (by kernel_rfl) (by simp) (AllReady.cons rfl (fun K' hK => ?_) AllReady.nil)
   rw [if_pos (by kernel_rfl)]
   simp only [List.getElem_toArray, List.getElem_cons_zero]
   refine wp_load_row 101 _ rfl (w.heap.size) rfl 101 (rd m) (0, 0) _ rp0 Tryz.underlying101 rfl (rd_info m) (hK _ _ ?_)
   simp only [Act.put, List.setIfInBounds_toArray, List.set_cons_succ, List.set_cons_zero]
   clear hK
   refine wpAny_ready (rs := [2]) (fuel := 1) (by kernel_rfl) (by simp) (AllReady.cons rfl (fun K' hK => ?_) AllReady.nil)
   rw [if_pos (by kernel_rfl)]
   simp only [List.getElem_toArray, List.getElem_cons_succ, List.getElem_cons_zero]
   refine wp_call_op (f := 83) (args := #[.agg (rd m), v6]) (by kernel_rfl) (c4 _ _ hBv6) (fun w7 hb => hK _ _ ?_)
   simp only [Act.put, List.setIfInBounds_toArray, List.set_cons_succ, List.set_cons_zero]
   clear hK
   replace rp0 := keep hb rp0
   replace rp1 := keep hb rp1
   replace hw := Below.after hw hb
   replace hBv6 := hBv6.keep hb
   clear hb
   refine wpAny_ready (rs := [3]) (fuel := 0) (by kernel_rfl) (by simp) (AllReady.cons rfl (fun K' hK => ?_) AllReady.nil)
   rw [if_pos (by kernel_rfl)]
   simp only [List.getElem_toArray, List.getElem_cons_succ, List.getElem_cons_zero]
   refine wp_store_row 101 _ _ rfl (w.heap.size + 1) (rd q) rfl rfl 101 _ rp1 (rd_info q) ((rd_size 0).trans (rd_size q).symm) (rd_one q) (hK _ _ ?_)
   simp only [Act.put]
   clear hK
   replace rp0 := (setRow_other w7 (w.heap.size + 1) (w.heap.size) (rd q) (by first | assumption | omega)).trans rp0
   replace rp1 := setRow_heap w7 (w.heap.size + 1) _ (rd q) _ _ rp1
   replace hw := below_setRow hw (show w.heap.size ≤ w.heap.size + 1 by first | assumption | omega) (rd q)
   generalize w7.setRow (w.heap.size + 1) (rd q) = w8 at *
   refine wpAny_done (by kernel_rfl) ?_ _
   go_wp2
   exact bodyPost_ret (v := .agg (rd q)) (results_cell_row Tryz.results59 _ _ (w.heap.size + 1) _ (rd q) _ _ rfl rp1 Tryz.underlying101 rfl (rd_info q)) rfl ⟨rfl, hw⟩
end Go.Proofs.YtgbkbcgjagcgbaaGreatDoor.Lo
