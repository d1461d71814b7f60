import Derived.Test.YtgbkbcgjagcgbaaProg
import Derived.WalkKit
import Derived.WalkSpells
import Derived.WalkLawsBesides
import Derived.Lib.QuietBelow
import Derived.BigQuiet
import Derived.OrdersHeld
import Derived.Deep.RegionHeld3
import Derived.OwnWalk
import Derived.Deep.Cut
import Derived.Test.YtgbkbcgjagcgbaaKit
import Derived.Test.YtgbkbcgjagcgbaaAga
namespace Go.Proofs.Ytgbkbcgjagcgbaa
open Go Go.RowKit Go.Sort
attribute [local go_sem] setCell_drewN alloc_drewN

set_option maxRecDepth 100000 in
set_option maxHeartbeats 4000000 in
theorem a_offer (ia ib sa sb oa ob : List Int) (h : Bool) (hia : ia.length = 32) (hib : ib.length = 32) (hsa : sa.length = 32) (hsb : sb.length = 32) (hoa : oa.length = 32) (hob : ob.length = 32) (w : World) : Calls Try.prog 4 #[.agg (prow ia ib), .agg (prow sa sb), .agg (prow oa ob), .bool h] w fun e w' => e = .returned (.agg (brow ib sb (if h then ob else zr 32) h)) ∧ Below w.heap.size w w' := by
  have R0 := hp4_0 w (.cells (prow ia ib) 25) (.cells (prow sa sb) 25) (.cells (prow oa ob) 25) (.cells (brow (zr 32) (zr 32) (zr 32) false) 29)
  have R1 := hp4_1 w (.cells (prow ia ib) 25) (.cells (prow sa sb) 25) (.cells (prow oa ob) 25) (.cells (brow (zr 32) (zr 32) (zr 32) false) 29)
  have R2 := hp4_2 w (.cells (prow ia ib) 25) (.cells (prow sa sb) 25) (.cells (prow oa ob) 25) (.cells (brow (zr 32) (zr 32) (zr 32) false) 29)
  have R3 := hp4_3 w (.cells (prow ia ib) 25) (.cells (prow sa sb) 25) (.cells (prow oa ob) 25) (.cells (brow (zr 32) (zr 32) (zr 32) false) 29)
  have hw : Below w.heap.size w ((((w.alloc (.cells (prow ia ib) 25)).alloc (.cells (prow sa sb) 25)).alloc (.cells (prow oa ob) 25)).alloc (.cells (brow (zr 32) (zr 32) (zr 32) false) 29)) := (((((Below.refl _ _).alloc (Nat.le_refl _) _).alloc (by simp) _).alloc (by simp; omega) _).alloc (by simp; omega) _)
  have zs : ((((w.alloc (.cells (prow ia ib) 25)).alloc (.cells (prow sa sb) 25)).alloc (.cells (prow oa ob) 25)).alloc (.cells (brow (zr 32) (zr 32) (zr 32) false) 29)).heap.size = w.heap.size + 1 + 1 + 1 + 1 := by simp
  have zn : (zr 32).length = 32 := zr_len 32
  go_enter Try.func4, Try.ntmps4
  go_upto_region 1 with (first | (refine wpList_box rfl 25 _ rfl _ rfl (bPrA _) ?_) | (refine wpList_alloc rfl 29 rfl (brow (zr 32) (zr 32) (zr 32) false) zBnA ?_) | fail)
  simp only [size_alloc1, Act.put, List.setIfInBounds_toArray, List.set_cons_succ, List.set_cons_zero]
  generalize ((((w.alloc (.cells (prow ia ib) 25)).alloc (.cells (prow sa sb) 25)).alloc (.cells (prow oa ob) 25)).alloc (.cells (brow (zr 32) (zr 32) (zr 32) false) 29)) = w1 at *
  repeat ((fail_if_success (refine wpList_load_part rfl 23 _ rfl (w.heap.size) 32 rfl 25 (prow ia ib) (0, 0) (irow .u8 ib) _ R0 (pr_b hia hib) Try.underlying23 rfl (infoKy _ hib) ?_)); first | go_skip | go_step)
  refine wpList_load_part rfl 23 _ rfl (w.heap.size) 32 rfl 25 (prow ia ib) (0, 0) (irow .u8 ib) _ R0 (pr_b hia hib) Try.underlying23 rfl (infoKy _ hib) ?_
  repeat ((fail_if_success (refine wpList_load_part rfl 23 _ rfl (w.heap.size + 1) 32 rfl 25 (prow sa sb) (0, 0) (irow .u8 sb) _ R1 (pr_b hsa hsb) Try.underlying23 rfl (infoKy _ hsb) ?_)); first | go_skip | go_step)
  refine wpList_load_part rfl 23 _ rfl (w.heap.size + 1) 32 rfl 25 (prow sa sb) (0, 0) (irow .u8 sb) _ R1 (pr_b hsa hsb) Try.underlying23 rfl (infoKy _ hsb) ?_
  simp only [Act.put, List.setIfInBounds_toArray, List.set_cons_succ, List.set_cons_zero]
  repeat ((fail_if_success (refine wpList_build_as rfl 29 _ rfl [(0, .agg (irow .u8 ib)), (1, .agg (irow .u8 sb)), (3, .bool h)] rfl (brow ib sb (zr 32) h) (builtBn ib sb h hib hsb) ?_)); first | go_skip | go_step)
  refine wpList_build_as rfl 29 _ rfl [(0, .agg (irow .u8 ib)), (1, .agg (irow .u8 sb)), (3, .bool h)] rfl (brow ib sb (zr 32) h) (builtBn ib sb h hib hsb) ?_
  have z_ := hp1_0 w1 (.cells (brow (zr 32) (zr 32) (zr 32) false) 29)
  repeat ((fail_if_success (refine wpList_alloc rfl 29 rfl (brow (zr 32) (zr 32) (zr 32) false) zBnA ?_)); first | go_skip | go_step)
  refine wpList_alloc rfl 29 rfl (brow (zr 32) (zr 32) (zr 32) false) zBnA ?_
  repeat ((fail_if_success (refine wpList_store_row rfl 29 _ _ rfl (w1.heap.size) (brow ib sb (zr 32) h) rfl rfl 29 _ z_ (info_brow _ _ _ _ hib hsb zn) (by rw [brow_size _ _ _ _ zn zn zn, brow_size _ _ _ _ hib hsb zn]) (brow_one _ _ _ _) ?_)); first | go_skip | go_step)
  refine wpList_store_row rfl 29 _ _ rfl (w1.heap.size) (brow ib sb (zr 32) h) rfl rfl 29 _ z_ (info_brow _ _ _ _ hib hsb zn) (by rw [brow_size _ _ _ _ zn zn zn, brow_size _ _ _ _ hib hsb zn]) (brow_one _ _ _ _) ?_
  have R4 := setRow_heap (w1.alloc (.cells (brow (zr 32) (zr 32) (zr 32) false) 29)) w1.heap.size _ (brow ib sb (zr 32) h) _ _ z_
  have hb_ : Below w1.heap.size w1 ((w1.alloc (.cells (brow (zr 32) (zr 32) (zr 32) false) 29)).setRow w1.heap.size (brow ib sb (zr 32) h)) := below_setRow ((Below.refl _ _).alloc (Nat.le_refl _) _) (Nat.le_refl _) _
  replace R2 := keep hb_ R2
  replace R3 := keep hb_ R3
  replace hw := Below.after hw hb_
  clear hb_ z_ R0 R1
  simp only [Act.put, List.setIfInBounds_toArray, List.set_cons_succ, List.set_cons_zero]
  generalize ((w1.alloc (.cells (brow (zr 32) (zr 32) (zr 32) false) 29)).setRow w1.heap.size (brow ib sb (zr 32) h)) = w2 at *
  generalize w1.heap.size = g at *
  subst zs
  cases h
  · have R5 := setRow_heap w2 (w.heap.size + 1 + 1 + 1) _ (brow ib sb (zr 32) false) _ _ R3
    have hw5 := below_setRow hw (show w.heap.size ≤ w.heap.size + 1 + 1 + 1 by omega) (brow ib sb (zr 32) false)
    go_wp2_with (first | (refine wpList_load_want rfl 29 _ rfl _ rfl 29 (brow ib sb (zr 32) false) (0, 0) _ R4 Try.underlying29 rfl (info_brow _ _ _ _ hib hsb zn) ?_) | (refine wpList_store_row rfl 29 _ _ rfl (w.heap.size + 1 + 1 + 1) (brow ib sb (zr 32) false) rfl rfl 29 _ R3 (info_brow _ _ _ _ hib hsb zn) (by rw [brow_size _ _ _ _ zn zn zn, brow_size _ _ _ _ hib hsb zn]) (brow_one _ _ _ _) ?_) | fail)
    exact bodyPost_ret (results_cell_row Try.results4 _ _ (w.heap.size + 1 + 1 + 1) _ _ _ _ rfl R5 Try.underlying29 rfl (info_brow _ _ _ _ hib hsb zn)) rfl ⟨rfl, hw5⟩
  · have R6 := setRow_heap w2 (w.heap.size + 1 + 1 + 1 + 1) _ (brow ib sb ob true) _ _ R4
    have R7 := (setRow_other w2 (w.heap.size + 1 + 1 + 1 + 1) (w.heap.size + 1 + 1 + 1) (brow ib sb ob true) (by omega)).trans R3
    have hw6 := below_setRow hw (show w.heap.size ≤ w.heap.size + 1 + 1 + 1 + 1 by omega) (brow ib sb ob true)
    have R8 := setRow_heap (w2.setRow (w.heap.size + 1 + 1 + 1 + 1) (brow ib sb ob true)) (w.heap.size + 1 + 1 + 1) _ (brow ib sb ob true) _ _ R7
    have hw8 := below_setRow hw6 (show w.heap.size ≤ w.heap.size + 1 + 1 + 1 by omega) (brow ib sb ob true)
    go_wp2_with (first | (refine wpList_load_part rfl 23 _ rfl (w.heap.size + 1 + 1) 32 rfl 25 (prow oa ob) (0, 0) (irow .u8 ob) _ R2 (pr_b hoa hob) Try.underlying23 rfl (infoKy _ hob) ?_) | (refine wpList_store_part rfl 23 _ _ rfl (w.heap.size + 1 + 1 + 1 + 1) 64 (irow .u8 ob) rfl rfl 29 (brow ib sb (zr 32) true) (brow ib sb ob true) R4 (by rw [brow_size _ _ _ _ hib hsb zn, irow_size, hob]; omega) (bn_put _ _ _ _ _ hib hsb zn hob) (infoKy _ hob) (irow_one _ _) ?_; refine wpList_stay ?_) | fail)
    unfold WpStay
    try simp only [Act.put, List.setIfInBounds_toArray, List.set_cons_succ, List.set_cons_zero]
    go_wp2_with (first | (refine wpList_load_want rfl 29 _ rfl (w.heap.size + 1 + 1 + 1 + 1) rfl 29 (brow ib sb ob true) (0, 0) _ R6 Try.underlying29 rfl (info_brow _ _ _ _ hib hsb hob) ?_) | (refine wpList_store_row rfl 29 _ _ rfl (w.heap.size + 1 + 1 + 1) (brow ib sb ob true) rfl rfl 29 _ R7 (info_brow _ _ _ _ hib hsb hob) (by rw [brow_size _ _ _ _ zn zn zn, brow_size _ _ _ _ hib hsb hob]) (brow_one _ _ _ _) ?_) | fail)
    exact bodyPost_ret (results_cell_row Try.results4 _ _ (w.heap.size + 1 + 1 + 1) _ _ _ _ rfl R8 Try.underlying29 rfl (info_brow _ _ _ _ hib hsb hob)) rfl ⟨rfl, hw8⟩
set_option maxRecDepth 100000 in
set_option maxHeartbeats 4000000 in
theorem r_offer (ia ib sa sb oa ob : List Int) (h : Bool) (hia : ia.length = 32) (hib : ib.length = 32) (hsa : sa.length = 32) (hsb : sb.length = 32) (hoa : oa.length = 32) (hob : ob.length = 32) (w : World) : Calls Try.prog 5 #[.agg (prow ia ib), .agg (prow sa sb), .agg (prow oa ob), .bool h] w fun e w' => e = .returned (.agg (brow ib sb (if h then ob else zr 32) h)) ∧ Below w.heap.size w w' := by
  have R0 := hp4_0 w (.cells (prow ia ib) 25) (.cells (prow sa sb) 25) (.cells (prow oa ob) 25) (.cells (brow (zr 32) (zr 32) (zr 32) false) 29)
  have R1 := hp4_1 w (.cells (prow ia ib) 25) (.cells (prow sa sb) 25) (.cells (prow oa ob) 25) (.cells (brow (zr 32) (zr 32) (zr 32) false) 29)
  have R2 := hp4_2 w (.cells (prow ia ib) 25) (.cells (prow sa sb) 25) (.cells (prow oa ob) 25) (.cells (brow (zr 32) (zr 32) (zr 32) false) 29)
  have R3 := hp4_3 w (.cells (prow ia ib) 25) (.cells (prow sa sb) 25) (.cells (prow oa ob) 25) (.cells (brow (zr 32) (zr 32) (zr 32) false) 29)
  have hw : Below w.heap.size w ((((w.alloc (.cells (prow ia ib) 25)).alloc (.cells (prow sa sb) 25)).alloc (.cells (prow oa ob) 25)).alloc (.cells (brow (zr 32) (zr 32) (zr 32) false) 29)) := (((((Below.refl _ _).alloc (Nat.le_refl _) _).alloc (by simp) _).alloc (by simp; omega) _).alloc (by simp; omega) _)
  have zs : ((((w.alloc (.cells (prow ia ib) 25)).alloc (.cells (prow sa sb) 25)).alloc (.cells (prow oa ob) 25)).alloc (.cells (brow (zr 32) (zr 32) (zr 32) false) 29)).heap.size = w.heap.size + 1 + 1 + 1 + 1 := by simp
  have zn : (zr 32).length = 32 := zr_len 32
  go_enter Try.func5, Try.ntmps5
  go_upto_region 1 with (first | (refine wpList_box rfl 25 _ rfl _ rfl (bPrA _) ?_) | (refine wpList_alloc rfl 29 rfl (brow (zr 32) (zr 32) (zr 32) false) zBnA ?_) | fail)
  simp only [size_alloc1, Act.put, List.setIfInBounds_toArray, List.set_cons_succ, List.set_cons_zero]
  generalize ((((w.alloc (.cells (prow ia ib) 25)).alloc (.cells (prow sa sb) 25)).alloc (.cells (prow oa ob) 25)).alloc (.cells (brow (zr 32) (zr 32) (zr 32) false) 29)) = w1 at *
  repeat ((fail_if_success (refine wpList_load_part rfl 23 _ rfl (w.heap.size) 32 rfl 25 (prow ia ib) (0, 0) (irow .u8 ib) _ R0 (pr_b hia hib) Try.underlying23 rfl (infoKy _ hib) ?_)); first | go_skip | go_step)
  refine wpList_load_part rfl 23 _ rfl (w.heap.size) 32 rfl 25 (prow ia ib) (0, 0) (irow .u8 ib) _ R0 (pr_b hia hib) Try.underlying23 rfl (infoKy _ hib) ?_
  repeat ((fail_if_success (refine wpList_load_part rfl 23 _ rfl (w.heap.size + 1) 32 rfl 25 (prow sa sb) (0, 0) (irow .u8 sb) _ R1 (pr_b hsa hsb) Try.underlying23 rfl (infoKy _ hsb) ?_)); first | go_skip | go_step)
  refine wpList_load_part rfl 23 _ rfl (w.heap.size + 1) 32 rfl 25 (prow sa sb) (0, 0) (irow .u8 sb) _ R1 (pr_b hsa hsb) Try.underlying23 rfl (infoKy _ hsb) ?_
  simp only [Act.put, List.setIfInBounds_toArray, List.set_cons_succ, List.set_cons_zero]
  repeat ((fail_if_success (refine wpList_build_as rfl 29 _ rfl [(0, .agg (irow .u8 ib)), (1, .agg (irow .u8 sb)), (3, .bool h)] rfl (brow ib sb (zr 32) h) (builtBn ib sb h hib hsb) ?_)); first | go_skip | go_step)
  refine wpList_build_as rfl 29 _ rfl [(0, .agg (irow .u8 ib)), (1, .agg (irow .u8 sb)), (3, .bool h)] rfl (brow ib sb (zr 32) h) (builtBn ib sb h hib hsb) ?_
  have z_ := hp1_0 w1 (.cells (brow (zr 32) (zr 32) (zr 32) false) 29)
  repeat ((fail_if_success (refine wpList_alloc rfl 29 rfl (brow (zr 32) (zr 32) (zr 32) false) zBnA ?_)); first | go_skip | go_step)
  refine wpList_alloc rfl 29 rfl (brow (zr 32) (zr 32) (zr 32) false) zBnA ?_
  repeat ((fail_if_success (refine wpList_store_row rfl 29 _ _ rfl (w1.heap.size) (brow ib sb (zr 32) h) rfl rfl 29 _ z_ (info_brow _ _ _ _ hib hsb zn) (by rw [brow_size _ _ _ _ zn zn zn, brow_size _ _ _ _ hib hsb zn]) (brow_one _ _ _ _) ?_)); first | go_skip | go_step)
  refine wpList_store_row rfl 29 _ _ rfl (w1.heap.size) (brow ib sb (zr 32) h) rfl rfl 29 _ z_ (info_brow _ _ _ _ hib hsb zn) (by rw [brow_size _ _ _ _ zn zn zn, brow_size _ _ _ _ hib hsb zn]) (brow_one _ _ _ _) ?_
  have R4 := setRow_heap (w1.alloc (.cells (brow (zr 32) (zr 32) (zr 32) false) 29)) w1.heap.size _ (brow ib sb (zr 32) h) _ _ z_
  have hb_ : Below w1.heap.size w1 ((w1.alloc (.cells (brow (zr 32) (zr 32) (zr 32) false) 29)).setRow w1.heap.size (brow ib sb (zr 32) h)) := below_setRow ((Below.refl _ _).alloc (Nat.le_refl _) _) (Nat.le_refl _) _
  replace R2 := keep hb_ R2
  replace R3 := keep hb_ R3
  replace hw := Below.after hw hb_
  clear hb_ z_ R0 R1
  simp only [Act.put, List.setIfInBounds_toArray, List.set_cons_succ, List.set_cons_zero]
  generalize ((w1.alloc (.cells (brow (zr 32) (zr 32) (zr 32) false) 29)).setRow w1.heap.size (brow ib sb (zr 32) h)) = w2 at *
  generalize w1.heap.size = g at *
  subst zs
  cases h
  · have R5 := setRow_heap w2 (w.heap.size + 1 + 1 + 1) _ (brow ib sb (zr 32) false) _ _ R3
    have hw5 := below_setRow hw (show w.heap.size ≤ w.heap.size + 1 + 1 + 1 by omega) (brow ib sb (zr 32) false)
    go_wp2_with (first | (refine wpList_load_want rfl 29 _ rfl _ rfl 29 (brow ib sb (zr 32) false) (0, 0) _ R4 Try.underlying29 rfl (info_brow _ _ _ _ hib hsb zn) ?_) | (refine wpList_store_row rfl 29 _ _ rfl (w.heap.size + 1 + 1 + 1) (brow ib sb (zr 32) false) rfl rfl 29 _ R3 (info_brow _ _ _ _ hib hsb zn) (by rw [brow_size _ _ _ _ zn zn zn, brow_size _ _ _ _ hib hsb zn]) (brow_one _ _ _ _) ?_) | fail)
    exact bodyPost_ret (results_cell_row Try.results5 _ _ (w.heap.size + 1 + 1 + 1) _ _ _ _ rfl R5 Try.underlying29 rfl (info_brow _ _ _ _ hib hsb zn)) rfl ⟨rfl, hw5⟩
  · have R6 := setRow_heap w2 (w.heap.size + 1 + 1 + 1 + 1) _ (brow ib sb ob true) _ _ R4
    have R7 := (setRow_other w2 (w.heap.size + 1 + 1 + 1 + 1) (w.heap.size + 1 + 1 + 1) (brow ib sb ob true) (by omega)).trans R3
    have hw6 := below_setRow hw (show w.heap.size ≤ w.heap.size + 1 + 1 + 1 + 1 by omega) (brow ib sb ob true)
    have R8 := setRow_heap (w2.setRow (w.heap.size + 1 + 1 + 1 + 1) (brow ib sb ob true)) (w.heap.size + 1 + 1 + 1) _ (brow ib sb ob true) _ _ R7
    have hw8 := below_setRow hw6 (show w.heap.size ≤ w.heap.size + 1 + 1 + 1 by omega) (brow ib sb ob true)
    go_wp2_with (first | (refine wpList_load_part rfl 23 _ rfl (w.heap.size + 1 + 1) 32 rfl 25 (prow oa ob) (0, 0) (irow .u8 ob) _ R2 (pr_b hoa hob) Try.underlying23 rfl (infoKy _ hob) ?_) | (refine wpList_store_part rfl 23 _ _ rfl (w.heap.size + 1 + 1 + 1 + 1) 64 (irow .u8 ob) rfl rfl 29 (brow ib sb (zr 32) true) (brow ib sb ob true) R4 (by rw [brow_size _ _ _ _ hib hsb zn, irow_size, hob]; omega) (bn_put _ _ _ _ _ hib hsb zn hob) (infoKy _ hob) (irow_one _ _) ?_; refine wpList_stay ?_) | fail)
    unfold WpStay
    try simp only [Act.put, List.setIfInBounds_toArray, List.set_cons_succ, List.set_cons_zero]
    go_wp2_with (first | (refine wpList_load_want rfl 29 _ rfl (w.heap.size + 1 + 1 + 1 + 1) rfl 29 (brow ib sb ob true) (0, 0) _ R6 Try.underlying29 rfl (info_brow _ _ _ _ hib hsb hob) ?_) | (refine wpList_store_row rfl 29 _ _ rfl (w.heap.size + 1 + 1 + 1) (brow ib sb ob true) rfl rfl 29 _ R7 (info_brow _ _ _ _ hib hsb hob) (by rw [brow_size _ _ _ _ zn zn zn, brow_size _ _ _ _ hib hsb hob]) (brow_one _ _ _ _) ?_) | fail)
    exact bodyPost_ret (results_cell_row Try.results5 _ _ (w.heap.size + 1 + 1 + 1) _ _ _ _ rfl R8 Try.underlying29 rfl (info_brow _ _ _ _ hib hsb hob)) rfl ⟨rfl, hw8⟩

end Go.Proofs.Ytgbkbcgjagcgbaa
