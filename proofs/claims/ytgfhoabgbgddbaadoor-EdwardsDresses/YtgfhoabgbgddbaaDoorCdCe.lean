import Derived.Test.YtgfhoabgbgddbaaDoorProg
import Derived.WalkKit
import Derived.WalkSpells
import Derived.WalkLawsBesides
import Derived.Lib.QuietBelow
import Derived.BigQuiet
import Derived.Test.YtgfhoabgbgddbaaDoorCdKa
import Derived.Test.YtgfhoabgbgddbaaDoorCdDwi
import Derived.Test.YtgfhoabgbgddbaaDoorCdGs
import Derived.Test.YtgfhoabgbgddbaaDoorCdDwj
import Derived.Test.YtgfhoabgbgddbaaDoorCdGj
namespace Go.Proofs.YtgfhoabgbgddbaaDoor
set_option maxRecDepth 100000
open Go.RowKit Go.Sort
attribute [local go_sem] setCell_drewN alloc_drewN
set_option maxRecDepth 100000 in
set_option maxHeartbeats 8000000 in
theorem up_walk {ra rb rc rd' xr : Array Value} {A B C D X : Int} (ha : NumOf ra A) (hb : NumOf rb B) (hc : NumOf rc C) (hd : NumOf rd' D) (hx : NumOf xr X) :
 ∃ pa pb pc pd, NumOf pa (stp X ⟨A, B, C, D⟩).a ∧ NumOf pb (stp X ⟨A, B, C, D⟩).b ∧ NumOf pc (stp X ⟨A, B, C, D⟩).c ∧ NumOf pd (stp X ⟨A, B, C, D⟩).d ∧ Gives4 129 #[.agg (r4 ra rb rc rd'), .agg xr] (.agg (r4 pa pb pc pd)) := by
 obtain ⟨x2, h2, c2⟩ := b_add ha hb
 obtain ⟨x3, h3, c3⟩ := b_sub ha hb
 obtain ⟨x8, h8, c8⟩ := b_add hc hd
 obtain ⟨x9, h9, c9⟩ := b_sub hc hd
 obtain ⟨x14, h14, c14⟩ := b_square h2
 obtain ⟨x15, h15, c15⟩ := b_square h3
 obtain ⟨x19, h19, c19⟩ := b_sub h14 h15
 obtain ⟨x22, h22, c22⟩ := b_mul h9 h2
 obtain ⟨x23, h23, c23⟩ := b_mul h8 h3
 obtain ⟨x27, h27, c27⟩ := b_mul h14 h15
 obtain ⟨x28, h28, c28⟩ := b_times h19 121665 (by decide) (by decide)
 obtain ⟨x29, h29, c29⟩ := b_add h14 h28
 obtain ⟨x30, h30, c30⟩ := b_mul h19 h29
 obtain ⟨x31, h31, c31⟩ := b_add h22 h23
 obtain ⟨x32, h32, c32⟩ := b_square h31
 obtain ⟨x33, h33, c33⟩ := b_sub h22 h23
 obtain ⟨x34, h34, c34⟩ := b_square h33
 obtain ⟨x35, h35, c35⟩ := b_mul hx h34
 refine ⟨x27, x30, x32, x35, h27, h30, h32, h35, fun w hF => ?_⟩
 go_enter Tryd.func129, Tryd.ntmps129
 go_wp2
 have rp0 : (((w.alloc (.cells (r4 ra rb rc rd') 149)).alloc (.cells xr 27)).alloc (.cells #[.int .u64 0, .int .u64 0, .int .u64 0, .int .u64 0, .int .u64 0, .int .u64 0, .int .u64 0, .int .u64 0, .int .u64 0, .int .u64 0, .int .u64 0, .int .u64 0, .int .u64 0, .int .u64 0, .int .u64 0, .int .u64 0, .int .u64 0, .int .u64 0, .int .u64 0, .int .u64 0] 149)).heap[w.heap.size]? = some (.cells (r4 ra rb rc rd') 149 (0, 0)) := hp3_0 w _ _ _
 have rp1 : (((w.alloc (.cells (r4 ra rb rc rd') 149)).alloc (.cells xr 27)).alloc (.cells #[.int .u64 0, .int .u64 0, .int .u64 0, .int .u64 0, .int .u64 0, .int .u64 0, .int .u64 0, .int .u64 0, .int .u64 0, .int .u64 0, .int .u64 0, .int .u64 0, .int .u64 0, .int .u64 0, .int .u64 0, .int .u64 0, .int .u64 0, .int .u64 0, .int .u64 0, .int .u64 0] 149)).heap[w.heap.size + 1]? = some (.cells xr 27 (0, 0)) := hp3_1 w _ _ _
 have rp2 : (((w.alloc (.cells (r4 ra rb rc rd') 149)).alloc (.cells xr 27)).alloc (.cells #[.int .u64 0, .int .u64 0, .int .u64 0, .int .u64 0, .int .u64 0, .int .u64 0, .int .u64 0, .int .u64 0, .int .u64 0, .int .u64 0, .int .u64 0, .int .u64 0, .int .u64 0, .int .u64 0, .int .u64 0, .int .u64 0, .int .u64 0, .int .u64 0, .int .u64 0, .int .u64 0] 149)).heap[w.heap.size + 1 + 1]? = some (.cells #[.int .u64 0, .int .u64 0, .int .u64 0, .int .u64 0, .int .u64 0, .int .u64 0, .int .u64 0, .int .u64 0, .int .u64 0, .int .u64 0, .int .u64 0, .int .u64 0, .int .u64 0, .int .u64 0, .int .u64 0, .int .u64 0, .int .u64 0, .int .u64 0, .int .u64 0, .int .u64 0] 149 (0, 0)) := hp3_2 w _ _ _
 have hw : Below w.heap.size w (((w.alloc (.cells (r4 ra rb rc rd') 149)).alloc (.cells xr 27)).alloc (.cells #[.int .u64 0, .int .u64 0, .int .u64 0, .int .u64 0, .int .u64 0, .int .u64 0, .int .u64 0, .int .u64 0, .int .u64 0, .int .u64 0, .int .u64 0, .int .u64 0, .int .u64 0, .int .u64 0, .int .u64 0, .int .u64 0, .int .u64 0, .int .u64 0, .int .u64 0, .int .u64 0] 149)) := ((((Below.refl _ _).alloc (Nat.le_refl _) _).alloc (by simp) _).alloc (by simp; omega) _)
 have hz0 := hF.1
 have f4 : Four (((w.alloc (.cells (r4 ra rb rc rd') 149)).alloc (.cells xr 27)).alloc (.cells #[.int .u64 0, .int .u64 0, .int .u64 0, .int .u64 0, .int .u64 0, .int .u64 0, .int .u64 0, .int .u64 0, .int .u64 0, .int .u64 0, .int .u64 0, .int .u64 0, .int .u64 0, .int .u64 0, .int .u64 0, .int .u64 0, .int .u64 0, .int .u64 0, .int .u64 0, .int .u64 0] 149)) := (((hF.alloc _).alloc _).alloc _)
 generalize (((w.alloc (.cells (r4 ra rb rc rd') 149)).alloc (.cells xr 27)).alloc (.cells #[.int .u64 0, .int .u64 0, .int .u64 0, .int .u64 0, .int .u64 0, .int .u64 0, .int .u64 0, .int .u64 0, .int .u64 0, .int .u64 0, .int .u64 0, .int .u64 0, .int .u64 0, .int .u64 0, .int .u64 0, .int .u64 0, .int .u64 0, .int .u64 0, .int .u64 0, .int .u64 0] 149)) = w0 at *
 refine wp_region_alloc_ex 10 12 [5, 6] (fun _ => .cells #[.int .u64 0, .int .u64 0, .int .u64 0, .int .u64 0, .int .u64 0] 27 (0, 0)) (by kernel_rfl) (by decide) (by decide) (by kernel_rfl) (by kernel_rfl) (by kernel_rfl) (by kernel_rfl) (by kernel_rfl) (by kernel_rfl) (by kernel_rfl) (by kernel_rfl) (by decide) (by decide) ?_ ?_
 ·intro s l u
  rcases (by omega : s = 10 ∨ s = 11) with rfl | rfl <;> exact ⟨_, _, rfl, rfl, rfl, rfl, fun a w => by kernel_rfl⟩
 apply Exists.intro
 constructor
 ·intro v1 hb
  have Hrp0 := keepr (keep hb rp0)
  have Hrp1 := keepr (keep hb rp1)
  have Hrp2 := keepr (keep hb rp2)
  have F4 := f4.below hb
  clear hb; dsimp only [List.take]
  go_big_quiet_step (fail)
  refine wpQuiet_load_part rfl 27 _ rfl (w.heap.size) 0 rfl 149 (r4 ra rb rc rd') (0, 0) ra _ Hrp0.out p_0 Tryd.underlying27 rfl ha.info ?_
  simp only [Act.put, List.setIfInBounds_toArray, List.set_cons_succ, List.set_cons_zero]
  go_big_quiet_step (fail)
  refine wpQuiet_load_part rfl 27 _ rfl (w.heap.size) 5 rfl 149 (r4 ra rb rc rd') (0, 0) rb _ Hrp0.out (p5_1 ha.size) Tryd.underlying27 rfl hb.info ?_
  simp only [Act.put, List.setIfInBounds_toArray, List.set_cons_succ, List.set_cons_zero]
  go_big_quiet_step (exact c2.re)
  go_big_quiet_step (fail)
  refine wpQuiet_load_part rfl 27 _ rfl (w.heap.size) 0 rfl 149 (r4 ra rb rc rd') (0, 0) ra _ Hrp0.out p_0 Tryd.underlying27 rfl ha.info ?_
  simp only [Act.put, List.setIfInBounds_toArray, List.set_cons_succ, List.set_cons_zero]
  go_big_quiet_step (fail)
  refine wpQuiet_load_part rfl 27 _ rfl (w.heap.size) 5 rfl 149 (r4 ra rb rc rd') (0, 0) rb _ Hrp0.out (p5_1 ha.size) Tryd.underlying27 rfl hb.info ?_
  simp only [Act.put, List.setIfInBounds_toArray, List.set_cons_succ, List.set_cons_zero]
  go_big_quiet_step (exact c3.re F4)
  refine wpQuiet_nil ?_
  rfl
 intro w4 g hb hg hd
 obtain ⟨lg5, rg5⟩ := hg 5 (by simp)
 replace rg5 : w4.heap[g 5]? = some (.cells #[.int .u64 0, .int .u64 0, .int .u64 0, .int .u64 0, .int .u64 0] 27 (0, 0)) := rg5
 obtain ⟨lg6, rg6⟩ := hg 6 (by simp)
 replace rg6 : w4.heap[g 6]? = some (.cells #[.int .u64 0, .int .u64 0, .int .u64 0, .int .u64 0, .int .u64 0] 27 (0, 0)) := rg6
 simp only [List.drop, puts, ptrs, List.map, List.foldl, Act.put, List.setIfInBounds_toArray, List.set_cons_succ, List.set_cons_zero]
 have d6_5 := hd 6 (by simp) 5 (by simp) (by decide)
 clear hg hd
 generalize g 5 = ge at *
 generalize g 6 = gf at *
 have lrp0 := lt_of_row rp0
 have lrp1 := lt_of_row rp1
 have lrp2 := lt_of_row rp2
 have hs := hw.size
 have hz := f4.1
 replace rp0 := keep hb rp0
 replace rp1 := keep hb rp1
 replace rp2 := keep hb rp2
 replace hw := Below.after hw hb
 replace f4 := f4.below hb
 clear hb
 refine wpList_store_row rfl 27 _ _ rfl ge x2 rfl rfl 27 _ rg5 h2.info (h2.fits rfl) h2.one ?_
 simp only [Act.put]
 replace rp0 := (setRow_other w4 ge (w.heap.size) x2 (by omega)).trans rp0
 replace rp1 := (setRow_other w4 ge (w.heap.size + 1) x2 (by omega)).trans rp1
 replace rp2 := (setRow_other w4 ge (w.heap.size + 1 + 1) x2 (by omega)).trans rp2
 replace rg5 := setRow_heap w4 ge _ x2 _ _ rg5
 replace rg6 := (setRow_other w4 ge gf x2 (by omega)).trans rg6
 replace hw := below_setRow hw (show w.heap.size ≤ ge by omega) x2
 replace f4 := f4.setRow (show 3 < ge by omega) x2
 generalize w4.setRow ge x2 = w5 at *
 refine wpList_store_row rfl 27 _ _ rfl gf x3 rfl rfl 27 _ rg6 h3.info (h3.fits rfl) h3.one ?_
 simp only [Act.put]
 replace rp0 := (setRow_other w5 gf (w.heap.size) x3 (by omega)).trans rp0
 replace rp1 := (setRow_other w5 gf (w.heap.size + 1) x3 (by omega)).trans rp1
 replace rp2 := (setRow_other w5 gf (w.heap.size + 1 + 1) x3 (by omega)).trans rp2
 replace rg5 := (setRow_other w5 gf ge x3 (by omega)).trans rg5
 replace rg6 := setRow_heap w5 gf _ x3 _ _ rg6
 replace hw := below_setRow hw (show w.heap.size ≤ gf by omega) x3
 replace f4 := f4.setRow (show 3 < gf by omega) x3
 generalize w5.setRow gf x3 = w6 at *
 have yge_0 : w.heap.size < ge := by omega
 have yge_1 : w.heap.size + 1 < ge := by omega
 have yge_2 : w.heap.size + 1 + 1 < ge := by omega
 have yge : w.heap.size ≤ ge := by omega
 have zge : 3 < ge := by omega
 have ygf_0 : w.heap.size < gf := by omega
 have ygf_1 : w.heap.size + 1 < gf := by omega
 have ygf_2 : w.heap.size + 1 + 1 < gf := by omega
 have ygf : w.heap.size ≤ gf := by omega
 have zgf : 3 < gf := by omega
 clear hs hz lrp0 lrp1 lrp2 lg5 lg6
 go_wp2
 refine wp_region_alloc_ex 10 12 [7, 8] (fun _ => .cells #[.int .u64 0, .int .u64 0, .int .u64 0, .int .u64 0, .int .u64 0] 27 (0, 0)) (by kernel_rfl) (by decide) (by decide) (by kernel_rfl) (by kernel_rfl) (by kernel_rfl) (by kernel_rfl) (by kernel_rfl) (by kernel_rfl) (by kernel_rfl) (by kernel_rfl) (by decide) (by decide) ?_ ?_
 ·intro s l u
  rcases (by omega : s = 10 ∨ s = 11) with rfl | rfl <;> exact ⟨_, _, rfl, rfl, rfl, rfl, fun a w => by kernel_rfl⟩
 apply Exists.intro
 constructor
 ·intro v7 hb
  have Hrp0 := keepr (keep hb rp0)
  have Hrp1 := keepr (keep hb rp1)
  have Hrp2 := keepr (keep hb rp2)
  have Hrg5 := keepr (keep hb rg5)
  have Hrg6 := keepr (keep hb rg6)
  have F4 := f4.below hb
  clear hb; dsimp only [List.take]
  go_big_quiet_step (fail)
  refine wpQuiet_load_part rfl 27 _ rfl (w.heap.size) 10 rfl 149 (r4 ra rb rc rd') (0, 0) rc _ Hrp0.out (p5_2 ha.size hb.size) Tryd.underlying27 rfl hc.info ?_
  simp only [Act.put, List.setIfInBounds_toArray, List.set_cons_succ, List.set_cons_zero]
  go_big_quiet_step (fail)
  refine wpQuiet_load_part rfl 27 _ rfl (w.heap.size) 15 rfl 149 (r4 ra rb rc rd') (0, 0) rd' _ Hrp0.out (p5_3 ha.size hb.size hc.size) Tryd.underlying27 rfl hd.info ?_
  simp only [Act.put, List.setIfInBounds_toArray, List.set_cons_succ, List.set_cons_zero]
  go_big_quiet_step (exact c8.re)
  go_big_quiet_step (fail)
  refine wpQuiet_load_part rfl 27 _ rfl (w.heap.size) 10 rfl 149 (r4 ra rb rc rd') (0, 0) rc _ Hrp0.out (p5_2 ha.size hb.size) Tryd.underlying27 rfl hc.info ?_
  simp only [Act.put, List.setIfInBounds_toArray, List.set_cons_succ, List.set_cons_zero]
  go_big_quiet_step (fail)
  refine wpQuiet_load_part rfl 27 _ rfl (w.heap.size) 15 rfl 149 (r4 ra rb rc rd') (0, 0) rd' _ Hrp0.out (p5_3 ha.size hb.size hc.size) Tryd.underlying27 rfl hd.info ?_
  simp only [Act.put, List.setIfInBounds_toArray, List.set_cons_succ, List.set_cons_zero]
  go_big_quiet_step (exact c9.re F4)
  refine wpQuiet_nil ?_
  rfl
 intro w10 g hb hg hd
 obtain ⟨lg7, rg7⟩ := hg 7 (by simp)
 replace rg7 : w10.heap[g 7]? = some (.cells #[.int .u64 0, .int .u64 0, .int .u64 0, .int .u64 0, .int .u64 0] 27 (0, 0)) := rg7
 obtain ⟨lg8, rg8⟩ := hg 8 (by simp)
 replace rg8 : w10.heap[g 8]? = some (.cells #[.int .u64 0, .int .u64 0, .int .u64 0, .int .u64 0, .int .u64 0] 27 (0, 0)) := rg8
 simp only [List.drop, puts, ptrs, List.map, List.foldl, Act.put, List.setIfInBounds_toArray, List.set_cons_succ, List.set_cons_zero]
 have d8_7 := hd 8 (by simp) 7 (by simp) (by decide)
 clear hg hd
 generalize g 7 = gg at *
 generalize g 8 = gh at *
 have lrp0 := lt_of_row rp0
 have lrp1 := lt_of_row rp1
 have lrp2 := lt_of_row rp2
 have lrg5 := lt_of_row rg5
 have lrg6 := lt_of_row rg6
 have hs := hw.size
 have hz := f4.1
 replace rp0 := keep hb rp0
 replace rp1 := keep hb rp1
 replace rp2 := keep hb rp2
 replace rg5 := keep hb rg5
 replace rg6 := keep hb rg6
 replace hw := Below.after hw hb
 replace f4 := f4.below hb
 clear hb
 refine wpList_store_row rfl 27 _ _ rfl gg x8 rfl rfl 27 _ rg7 h8.info (h8.fits rfl) h8.one ?_
 simp only [Act.put]
 replace rp0 := (setRow_other w10 gg (w.heap.size) x8 (by omega)).trans rp0
 replace rp1 := (setRow_other w10 gg (w.heap.size + 1) x8 (by omega)).trans rp1
 replace rp2 := (setRow_other w10 gg (w.heap.size + 1 + 1) x8 (by omega)).trans rp2
 replace rg5 := (setRow_other w10 gg (ge) x8 (by omega)).trans rg5
 replace rg6 := (setRow_other w10 gg (gf) x8 (by omega)).trans rg6
 replace rg7 := setRow_heap w10 gg _ x8 _ _ rg7
 replace rg8 := (setRow_other w10 gg gh x8 (by omega)).trans rg8
 replace hw := below_setRow hw (show w.heap.size ≤ gg by omega) x8
 replace f4 := f4.setRow (show 3 < gg by omega) x8
 generalize w10.setRow gg x8 = w11 at *
 refine wpList_store_row rfl 27 _ _ rfl gh x9 rfl rfl 27 _ rg8 h9.info (h9.fits rfl) h9.one ?_
 simp only [Act.put]
 replace rp0 := (setRow_other w11 gh (w.heap.size) x9 (by omega)).trans rp0
 replace rp1 := (setRow_other w11 gh (w.heap.size + 1) x9 (by omega)).trans rp1
 replace rp2 := (setRow_other w11 gh (w.heap.size + 1 + 1) x9 (by omega)).trans rp2
 replace rg5 := (setRow_other w11 gh (ge) x9 (by omega)).trans rg5
 replace rg6 := (setRow_other w11 gh (gf) x9 (by omega)).trans rg6
 replace rg7 := (setRow_other w11 gh gg x9 (by omega)).trans rg7
 replace rg8 := setRow_heap w11 gh _ x9 _ _ rg8
 replace hw := below_setRow hw (show w.heap.size ≤ gh by omega) x9
 replace f4 := f4.setRow (show 3 < gh by omega) x9
 generalize w11.setRow gh x9 = w12 at *
 have ygg_0 : w.heap.size < gg := by omega
 have ygg_1 : w.heap.size + 1 < gg := by omega
 have ygg_2 : w.heap.size + 1 + 1 < gg := by omega
 have ygg_3 : ge < gg := by omega
 have ygg_4 : gf < gg := by omega
 have ygg : w.heap.size ≤ gg := by omega
 have zgg : 3 < gg := by omega
 have ygh_0 : w.heap.size < gh := by omega
 have ygh_1 : w.heap.size + 1 < gh := by omega
 have ygh_2 : w.heap.size + 1 + 1 < gh := by omega
 have ygh_3 : ge < gh := by omega
 have ygh_4 : gf < gh := by omega
 have ygh : w.heap.size ≤ gh := by omega
 have zgh : 3 < gh := by omega
 clear hs hz lrp0 lrp1 lrp2 lrg5 lrg6 lg7 lg8
 go_wp2
 refine wp_region_alloc_ex 4 6 [9, 10] (fun _ => .cells #[.int .u64 0, .int .u64 0, .int .u64 0, .int .u64 0, .int .u64 0] 27 (0, 0)) (by kernel_rfl) (by decide) (by decide) (by kernel_rfl) (by kernel_rfl) (by kernel_rfl) (by kernel_rfl) (by kernel_rfl) (by kernel_rfl) (by kernel_rfl) (by kernel_rfl) (by decide) (by decide) ?_ ?_
 ·intro s l u
  rcases (by omega : s = 4 ∨ s = 5) with rfl | rfl <;> exact ⟨_, _, rfl, rfl, rfl, rfl, fun a w => by kernel_rfl⟩
 apply Exists.intro
 constructor
 ·intro v13 hb
  have Hrp0 := keepr (keep hb rp0)
  have Hrp1 := keepr (keep hb rp1)
  have Hrp2 := keepr (keep hb rp2)
  have Hrg5 := keepr (keep hb rg5)
  have Hrg6 := keepr (keep hb rg6)
  have Hrg7 := keepr (keep hb rg7)
  have Hrg8 := keepr (keep hb rg8)
  have F4 := f4.below hb
  clear hb; dsimp only [List.take]
  refine wpQuiet_load_row rfl 27 _ rfl (ge) rfl 27 x2 (0, 0) _ Hrg5.out Tryd.underlying27 rfl h2.info ?_
  simp only [Act.put, List.setIfInBounds_toArray, List.set_cons_succ, List.set_cons_zero]
  go_big_quiet_step (exact c14.re)
  refine wpQuiet_load_row rfl 27 _ rfl (gf) rfl 27 x3 (0, 0) _ Hrg6.out Tryd.underlying27 rfl h3.info ?_
  simp only [Act.put, List.setIfInBounds_toArray, List.set_cons_succ, List.set_cons_zero]
  go_big_quiet_step (exact c15.re)
  refine wpQuiet_nil ?_
  rfl
 intro w16 g hb hg hd
 obtain ⟨lg9, rg9⟩ := hg 9 (by simp)
 replace rg9 : w16.heap[g 9]? = some (.cells #[.int .u64 0, .int .u64 0, .int .u64 0, .int .u64 0, .int .u64 0] 27 (0, 0)) := rg9
 obtain ⟨lg10, rg10⟩ := hg 10 (by simp)
 replace rg10 : w16.heap[g 10]? = some (.cells #[.int .u64 0, .int .u64 0, .int .u64 0, .int .u64 0, .int .u64 0] 27 (0, 0)) := rg10
 simp only [List.drop, puts, ptrs, List.map, List.foldl, Act.put, List.setIfInBounds_toArray, List.set_cons_succ, List.set_cons_zero]
 have d10_9 := hd 10 (by simp) 9 (by simp) (by decide)
 clear hg hd
 generalize g 9 = gy at *
 generalize g 10 = gz at *
 have lrp0 := lt_of_row rp0
 have lrp1 := lt_of_row rp1
 have lrp2 := lt_of_row rp2
 have lrg5 := lt_of_row rg5
 have lrg6 := lt_of_row rg6
 have lrg7 := lt_of_row rg7
 have lrg8 := lt_of_row rg8
 have hs := hw.size
 have hz := f4.1
 replace rp0 := keep hb rp0
 replace rp1 := keep hb rp1
 replace rp2 := keep hb rp2
 replace rg5 := keep hb rg5
 replace rg6 := keep hb rg6
 replace rg7 := keep hb rg7
 replace rg8 := keep hb rg8
 replace hw := Below.after hw hb
 replace f4 := f4.below hb
 clear hb
 refine wpList_store_row rfl 27 _ _ rfl gy x14 rfl rfl 27 _ rg9 h14.info (h14.fits rfl) h14.one ?_
 simp only [Act.put]
 replace rp0 := (setRow_other w16 gy (w.heap.size) x14 (by omega)).trans rp0
 replace rp1 := (setRow_other w16 gy (w.heap.size + 1) x14 (by omega)).trans rp1
 replace rp2 := (setRow_other w16 gy (w.heap.size + 1 + 1) x14 (by omega)).trans rp2
 replace rg5 := (setRow_other w16 gy (ge) x14 (by omega)).trans rg5
 replace rg6 := (setRow_other w16 gy (gf) x14 (by omega)).trans rg6
 replace rg7 := (setRow_other w16 gy (gg) x14 (by omega)).trans rg7
 replace rg8 := (setRow_other w16 gy (gh) x14 (by omega)).trans rg8
 replace rg9 := setRow_heap w16 gy _ x14 _ _ rg9
 replace rg10 := (setRow_other w16 gy gz x14 (by omega)).trans rg10
 replace hw := below_setRow hw (show w.heap.size ≤ gy by omega) x14
 replace f4 := f4.setRow (show 3 < gy by omega) x14
 generalize w16.setRow gy x14 = w17 at *
 refine wpList_store_row rfl 27 _ _ rfl gz x15 rfl rfl 27 _ rg10 h15.info (h15.fits rfl) h15.one ?_
 simp only [Act.put]
 replace rp0 := (setRow_other w17 gz (w.heap.size) x15 (by omega)).trans rp0
 replace rp1 := (setRow_other w17 gz (w.heap.size + 1) x15 (by omega)).trans rp1
 replace rp2 := (setRow_other w17 gz (w.heap.size + 1 + 1) x15 (by omega)).trans rp2
 replace rg5 := (setRow_other w17 gz (ge) x15 (by omega)).trans rg5
 replace rg6 := (setRow_other w17 gz (gf) x15 (by omega)).trans rg6
 replace rg7 := (setRow_other w17 gz (gg) x15 (by omega)).trans rg7
 replace rg8 := (setRow_other w17 gz (gh) x15 (by omega)).trans rg8
 replace rg9 := (setRow_other w17 gz gy x15 (by omega)).trans rg9
 replace rg10 := setRow_heap w17 gz _ x15 _ _ rg10
 replace hw := below_setRow hw (show w.heap.size ≤ gz by omega) x15
 replace f4 := f4.setRow (show 3 < gz by omega) x15
 generalize w17.setRow gz x15 = w18 at *
 have ygy_0 : w.heap.size < gy := by omega
 have ygy_1 : w.heap.size + 1 < gy := by omega
 have ygy_2 : w.heap.size + 1 + 1 < gy := by omega
 have ygy_3 : ge < gy := by omega
 have ygy_4 : gf < gy := by omega
 have ygy_5 : gg < gy := by omega
 have ygy_6 : gh < gy := by omega
 have ygy : w.heap.size ≤ gy := by omega
 have zgy : 3 < gy := by omega
 have ygz_0 : w.heap.size < gz := by omega
 have ygz_1 : w.heap.size + 1 < gz := by omega
 have ygz_2 : w.heap.size + 1 + 1 < gz := by omega
 have ygz_3 : ge < gz := by omega
 have ygz_4 : gf < gz := by omega
 have ygz_5 : gg < gz := by omega
 have ygz_6 : gh < gz := by omega
 have ygz : w.heap.size ≤ gz := by omega
 have zgz : 3 < gz := by omega
 clear hs hz lrp0 lrp1 lrp2 lrg5 lrg6 lrg7 lrg8 lg9 lg10
 go_wp2_with (first | (refine wpList_load_want rfl 149 _ rfl (w.heap.size) rfl 149 (r4 ra rb rc rd') (0, 0) _ rp0 Tryd.underlying149 rfl (nums_info ha.size hb.size hc.size hd.size) ?_) | (refine wpList_load_want rfl 27 _ rfl (w.heap.size + 1) rfl 27 xr (0, 0) _ rp1 Tryd.underlying27 rfl hx.info ?_) | (refine wpList_load_want rfl 149 _ rfl (w.heap.size + 1 + 1) rfl 149 #[.int .u64 0, .int .u64 0, .int .u64 0, .int .u64 0, .int .u64 0, .int .u64 0, .int .u64 0, .int .u64 0, .int .u64 0, .int .u64 0, .int .u64 0, .int .u64 0, .int .u64 0, .int .u64 0, .int .u64 0, .int .u64 0, .int .u64 0, .int .u64 0, .int .u64 0, .int .u64 0] (0, 0) _ rp2 Tryd.underlying149 rfl (by kernel_rfl) ?_) | (refine wpList_load_want rfl 27 _ rfl (ge) rfl 27 x2 (0, 0) _ rg5 Tryd.underlying27 rfl h2.info ?_) | (refine wpList_load_want rfl 27 _ rfl (gf) rfl 27 x3 (0, 0) _ rg6 Tryd.underlying27 rfl h3.info ?_) | (refine wpList_load_want rfl 27 _ rfl (gg) rfl 27 x8 (0, 0) _ rg7 Tryd.underlying27 rfl h8.info ?_) | (refine wpList_load_want rfl 27 _ rfl (gh) rfl 27 x9 (0, 0) _ rg8 Tryd.underlying27 rfl h9.info ?_) | (refine wpList_load_want rfl 27 _ rfl (gy) rfl 27 x14 (0, 0) _ rg9 Tryd.underlying27 rfl h14.info ?_) | (refine wpList_load_want rfl 27 _ rfl (gz) rfl 27 x15 (0, 0) _ rg10 Tryd.underlying27 rfl h15.info ?_) | (refine wpList_load_part rfl 27 _ rfl (w.heap.size) 0 rfl 149 (r4 ra rb rc rd') (0, 0) ra _ rp0 p_0 Tryd.underlying27 rfl ha.info ?_) | (refine wpList_load_part rfl 27 _ rfl (w.heap.size) 5 rfl 149 (r4 ra rb rc rd') (0, 0) rb _ rp0 (p5_1 ha.size) Tryd.underlying27 rfl hb.info ?_) | (refine wpList_load_part rfl 27 _ rfl (w.heap.size) 10 rfl 149 (r4 ra rb rc rd') (0, 0) rc _ rp0 (p5_2 ha.size hb.size) Tryd.underlying27 rfl hc.info ?_) | (refine wpList_load_part rfl 27 _ rfl (w.heap.size) 15 rfl 149 (r4 ra rb rc rd') (0, 0) rd' _ rp0 (p5_3 ha.size hb.size hc.size) Tryd.underlying27 rfl hd.info ?_) | fail)
 refine (c19.at f4).mono ?_
 rintro e w20 ⟨rfl, hb⟩
 replace rp0 := keep hb rp0
 replace rp1 := keep hb rp1
 replace rp2 := keep hb rp2
 replace rg5 := keep hb rg5
 replace rg6 := keep hb rg6
 replace rg7 := keep hb rg7
 replace rg8 := keep hb rg8
 replace rg9 := keep hb rg9
 replace rg10 := keep hb rg10
 replace hw := Below.after hw hb
 replace f4 := f4.below hb
 clear hb
 go_wp2_with (first | (refine wpList_store_row rfl 27 _ _ rfl (w20.heap.size) x19 rfl rfl 27 #[.int .u64 0, .int .u64 0, .int .u64 0, .int .u64 0, .int .u64 0] (hp1_0 w20 _) h19.info (h19.fits rfl) h19.one ?_; rw [setRow_alloc_new _ _ _ _ _ _ (by simp)]) | fail | fail)
 have rl11 : (w20.alloc (.cells x19 27)).heap[w20.heap.size]? = some (.cells x19 27 (0, 0)) := hp1_0 w20 _
 have hb : Below w20.heap.size w20 (w20.alloc (.cells x19 27)) := ((Below.refl _ _).alloc (Nat.le_refl _) _)
 generalize (w20.alloc (.cells x19 27)) = wr at *
 have ygr_0 := lt_of_row rp0
 have ygr_1 := lt_of_row rp1
 have ygr_2 := lt_of_row rp2
 have ygr_3 := lt_of_row rg5
 have ygr_4 := lt_of_row rg6
 have ygr_5 := lt_of_row rg7
 have ygr_6 := lt_of_row rg8
 have ygr_7 := lt_of_row rg9
 have ygr_8 := lt_of_row rg10
 have ygr := hw.size
 have zgr := f4.1
 replace rp0 := keep hb rp0
 replace rp1 := keep hb rp1
 replace rp2 := keep hb rp2
 replace rg5 := keep hb rg5
 replace rg6 := keep hb rg6
 replace rg7 := keep hb rg7
 replace rg8 := keep hb rg8
 replace rg9 := keep hb rg9
 replace rg10 := keep hb rg10
 replace hw := Below.after hw hb
 replace f4 := f4.below hb
 clear hb
 generalize w20.heap.size = gr at *
 clear w20
 refine wp_region_alloc_ex 6 8 [12, 13] (fun _ => .cells #[.int .u64 0, .int .u64 0, .int .u64 0, .int .u64 0, .int .u64 0] 27 (0, 0)) (by kernel_rfl) (by decide) (by decide) (by kernel_rfl) (by kernel_rfl) (by kernel_rfl) (by kernel_rfl) (by kernel_rfl) (by kernel_rfl) (by kernel_rfl) (by kernel_rfl) (by decide) (by decide) ?_ ?_
 ·intro s l u
  rcases (by omega : s = 6 ∨ s = 7) with rfl | rfl <;> exact ⟨_, _, rfl, rfl, rfl, rfl, fun a w => by kernel_rfl⟩
 apply Exists.intro
 constructor
 ·intro v21 hb
  have Hrp0 := keepr (keep hb rp0)
  have Hrp1 := keepr (keep hb rp1)
  have Hrp2 := keepr (keep hb rp2)
  have Hrg5 := keepr (keep hb rg5)
  have Hrg6 := keepr (keep hb rg6)
  have Hrg7 := keepr (keep hb rg7)
  have Hrg8 := keepr (keep hb rg8)
  have Hrg9 := keepr (keep hb rg9)
  have Hrg10 := keepr (keep hb rg10)
  have Hrl11 := keepr (keep hb rl11)
  have F4 := f4.below hb
  clear hb; dsimp only [List.take]
  refine wpQuiet_load_row rfl 27 _ rfl (gh) rfl 27 x9 (0, 0) _ Hrg8.out Tryd.underlying27 rfl h9.info ?_
  simp only [Act.put, List.setIfInBounds_toArray, List.set_cons_succ, List.set_cons_zero]
  refine wpQuiet_load_row rfl 27 _ rfl (ge) rfl 27 x2 (0, 0) _ Hrg5.out Tryd.underlying27 rfl h2.info ?_
  simp only [Act.put, List.setIfInBounds_toArray, List.set_cons_succ, List.set_cons_zero]
  go_big_quiet_step (exact c22.re)
  refine wpQuiet_load_row rfl 27 _ rfl (gg) rfl 27 x8 (0, 0) _ Hrg7.out Tryd.underlying27 rfl h8.info ?_
  simp only [Act.put, List.setIfInBounds_toArray, List.set_cons_succ, List.set_cons_zero]
  refine wpQuiet_load_row rfl 27 _ rfl (gf) rfl 27 x3 (0, 0) _ Hrg6.out Tryd.underlying27 rfl h3.info ?_
  simp only [Act.put, List.setIfInBounds_toArray, List.set_cons_succ, List.set_cons_zero]
  go_big_quiet_step (exact c23.re)
  refine wpQuiet_nil ?_
  rfl
 intro w24 g hb hg hd
 obtain ⟨lg12, rg12⟩ := hg 12 (by simp)
 replace rg12 : w24.heap[g 12]? = some (.cells #[.int .u64 0, .int .u64 0, .int .u64 0, .int .u64 0, .int .u64 0] 27 (0, 0)) := rg12
 obtain ⟨lg13, rg13⟩ := hg 13 (by simp)
 replace rg13 : w24.heap[g 13]? = some (.cells #[.int .u64 0, .int .u64 0, .int .u64 0, .int .u64 0, .int .u64 0] 27 (0, 0)) := rg13
 simp only [List.drop, puts, ptrs, List.map, List.foldl, Act.put, List.setIfInBounds_toArray, List.set_cons_succ, List.set_cons_zero]
 have d13_12 := hd 13 (by simp) 12 (by simp) (by decide)
 clear hg hd
 generalize g 12 = gm at *
 generalize g 13 = gn at *
 have lrp0 := lt_of_row rp0
 have lrp1 := lt_of_row rp1
 have lrp2 := lt_of_row rp2
 have lrg5 := lt_of_row rg5
 have lrg6 := lt_of_row rg6
 have lrg7 := lt_of_row rg7
 have lrg8 := lt_of_row rg8
 have lrg9 := lt_of_row rg9
 have lrg10 := lt_of_row rg10
 have lrl11 := lt_of_row rl11
 have hs := hw.size
 have hz := f4.1
 replace rp0 := keep hb rp0
 replace rp1 := keep hb rp1
 replace rp2 := keep hb rp2
 replace rg5 := keep hb rg5
 replace rg6 := keep hb rg6
 replace rg7 := keep hb rg7
 replace rg8 := keep hb rg8
 replace rg9 := keep hb rg9
 replace rg10 := keep hb rg10
 replace rl11 := keep hb rl11
 replace hw := Below.after hw hb
 replace f4 := f4.below hb
 clear hb
 refine wpList_store_row rfl 27 _ _ rfl gm x22 rfl rfl 27 _ rg12 h22.info (h22.fits rfl) h22.one ?_
 simp only [Act.put]
 replace rp0 := (setRow_other w24 gm (w.heap.size) x22 (by omega)).trans rp0
 replace rp1 := (setRow_other w24 gm (w.heap.size + 1) x22 (by omega)).trans rp1
 replace rp2 := (setRow_other w24 gm (w.heap.size + 1 + 1) x22 (by omega)).trans rp2
 replace rg5 := (setRow_other w24 gm (ge) x22 (by omega)).trans rg5
 replace rg6 := (setRow_other w24 gm (gf) x22 (by omega)).trans rg6
 replace rg7 := (setRow_other w24 gm (gg) x22 (by omega)).trans rg7
 replace rg8 := (setRow_other w24 gm (gh) x22 (by omega)).trans rg8
 replace rg9 := (setRow_other w24 gm (gy) x22 (by omega)).trans rg9
 replace rg10 := (setRow_other w24 gm (gz) x22 (by omega)).trans rg10
 replace rl11 := (setRow_other w24 gm (gr) x22 (by omega)).trans rl11
 replace rg12 := setRow_heap w24 gm _ x22 _ _ rg12
 replace rg13 := (setRow_other w24 gm gn x22 (by omega)).trans rg13
 replace hw := below_setRow hw (show w.heap.size ≤ gm by omega) x22
 replace f4 := f4.setRow (show 3 < gm by omega) x22
 generalize w24.setRow gm x22 = w25 at *
 refine wpList_store_row rfl 27 _ _ rfl gn x23 rfl rfl 27 _ rg13 h23.info (h23.fits rfl) h23.one ?_
 simp only [Act.put]
 replace rp0 := (setRow_other w25 gn (w.heap.size) x23 (by omega)).trans rp0
 replace rp1 := (setRow_other w25 gn (w.heap.size + 1) x23 (by omega)).trans rp1
 replace rp2 := (setRow_other w25 gn (w.heap.size + 1 + 1) x23 (by omega)).trans rp2
 replace rg5 := (setRow_other w25 gn (ge) x23 (by omega)).trans rg5
 replace rg6 := (setRow_other w25 gn (gf) x23 (by omega)).trans rg6
 replace rg7 := (setRow_other w25 gn (gg) x23 (by omega)).trans rg7
 replace rg8 := (setRow_other w25 gn (gh) x23 (by omega)).trans rg8
 replace rg9 := (setRow_other w25 gn (gy) x23 (by omega)).trans rg9
 replace rg10 := (setRow_other w25 gn (gz) x23 (by omega)).trans rg10
 replace rl11 := (setRow_other w25 gn (gr) x23 (by omega)).trans rl11
 replace rg12 := (setRow_other w25 gn gm x23 (by omega)).trans rg12
 replace rg13 := setRow_heap w25 gn _ x23 _ _ rg13
 replace hw := below_setRow hw (show w.heap.size ≤ gn by omega) x23
 replace f4 := f4.setRow (show 3 < gn by omega) x23
 generalize w25.setRow gn x23 = w26 at *
 have ygm_0 : w.heap.size < gm := by omega
 have ygm_1 : w.heap.size + 1 < gm := by omega
 have ygm_2 : w.heap.size + 1 + 1 < gm := by omega
 have ygm_3 : ge < gm := by omega
 have ygm_4 : gf < gm := by omega
 have ygm_5 : gg < gm := by omega
 have ygm_6 : gh < gm := by omega
 have ygm_7 : gy < gm := by omega
 have ygm_8 : gz < gm := by omega
 have ygm_9 : gr < gm := by omega
 have ygm : w.heap.size ≤ gm := by omega
 have zgm : 3 < gm := by omega
 have ygn_0 : w.heap.size < gn := by omega
 have ygn_1 : w.heap.size + 1 < gn := by omega
 have ygn_2 : w.heap.size + 1 + 1 < gn := by omega
 have ygn_3 : ge < gn := by omega
 have ygn_4 : gf < gn := by omega
 have ygn_5 : gg < gn := by omega
 have ygn_6 : gh < gn := by omega
 have ygn_7 : gy < gn := by omega
 have ygn_8 : gz < gn := by omega
 have ygn_9 : gr < gn := by omega
 have ygn : w.heap.size ≤ gn := by omega
 have zgn : 3 < gn := by omega
 clear hs hz lrp0 lrp1 lrp2 lrg5 lrg6 lrg7 lrg8 lrg9 lrg10 lrl11 lg12 lg13
 go_wp2
 have Hrp0 := keepr rp0
 have Hrp1 := keepr rp1
 have Hrp2 := keepr rp2
 have Hrg5 := keepr rg5
 have Hrg6 := keepr rg6
 have Hrg7 := keepr rg7
 have Hrg8 := keepr rg8
 have Hrg9 := keepr rg9
 have Hrg10 := keepr rg10
 have Hrl11 := keepr rl11
 have Hrg12 := keepr rg12
 have Hrg13 := keepr rg13
 refine wp_region_tail (C := fun w' => ∃ p : Regrown, w' = grow (redrawn w26 p.d) p.os) 20 _ rfl rfl rfl (by kernel_rfl) (by kernel_rfl) (by kernel_rfl) (by kernel_rfl) ⟨⟨w26.drawn + 1, #[]⟩, by rw [grow_empty]; rfl⟩ ?_
 dsimp only [List.set, idle]
 refine wpQuiet_load_row rfl 27 _ rfl (gy) rfl 27 x14 (0, 0) _ Hrg9.out Tryd.underlying27 rfl h14.info ?_
 simp only [Act.put, List.setIfInBounds_toArray, List.set_cons_succ, List.set_cons_zero]
 refine wpQuiet_load_row rfl 27 _ rfl (gz) rfl 27 x15 (0, 0) _ Hrg10.out Tryd.underlying27 rfl h15.info ?_
 simp only [Act.put, List.setIfInBounds_toArray, List.set_cons_succ, List.set_cons_zero]
 go_big_quiet_step (exact c27.re)
 refine wpQuiet_load_row rfl 27 _ rfl (gr) rfl 27 x19 (0, 0) _ Hrl11.out Tryd.underlying27 rfl h19.info ?_
 simp only [Act.put, List.setIfInBounds_toArray, List.set_cons_succ, List.set_cons_zero]
 refine wpQuiet_load_row rfl 27 _ rfl (gy) rfl 27 x14 (0, 0) _ Hrg9.out Tryd.underlying27 rfl h14.info ?_
 simp only [Act.put, List.setIfInBounds_toArray, List.set_cons_succ, List.set_cons_zero]
 refine wpQuiet_load_row rfl 27 _ rfl (gr) rfl 27 x19 (0, 0) _ Hrl11.out Tryd.underlying27 rfl h19.info ?_
 simp only [Act.put, List.setIfInBounds_toArray, List.set_cons_succ, List.set_cons_zero]
 go_big_quiet_step (exact c28.re)
 go_big_quiet_step (exact c29.re)
 go_big_quiet_step (exact c30.re)
 refine wpQuiet_load_row rfl 27 _ rfl (gm) rfl 27 x22 (0, 0) _ Hrg12.out Tryd.underlying27 rfl h22.info ?_
 simp only [Act.put, List.setIfInBounds_toArray, List.set_cons_succ, List.set_cons_zero]
 refine wpQuiet_load_row rfl 27 _ rfl (gn) rfl 27 x23 (0, 0) _ Hrg13.out Tryd.underlying27 rfl h23.info ?_
 simp only [Act.put, List.setIfInBounds_toArray, List.set_cons_succ, List.set_cons_zero]
 go_big_quiet_step (exact c31.re)
 go_big_quiet_step (exact c32.re)
 refine wpQuiet_load_row rfl 27 _ rfl (w.heap.size + 1) rfl 27 xr (0, 0) _ Hrp1.out Tryd.underlying27 rfl hx.info ?_
 simp only [Act.put, List.setIfInBounds_toArray, List.set_cons_succ, List.set_cons_zero]
 refine wpQuiet_load_row rfl 27 _ rfl (gm) rfl 27 x22 (0, 0) _ Hrg12.out Tryd.underlying27 rfl h22.info ?_
 simp only [Act.put, List.setIfInBounds_toArray, List.set_cons_succ, List.set_cons_zero]
 refine wpQuiet_load_row rfl 27 _ rfl (gn) rfl 27 x23 (0, 0) _ Hrg13.out Tryd.underlying27 rfl h23.info ?_
 simp only [Act.put, List.setIfInBounds_toArray, List.set_cons_succ, List.set_cons_zero]
 go_big_quiet_step (exact c33.re f4)
 go_big_quiet_step (exact c34.re)
 go_big_quiet_step (exact c35.re)
 refine wpQuiet_build rfl 149 _ rfl [(0, .agg x27), (1, .agg x30), (2, .agg x32), (3, .agg x35)] rfl (r4 x27 x30 x32 x35) (nums_built h27.size h30.size h32.size h35.size) ?_
 simp only [Act.put, List.setIfInBounds_toArray, List.set_cons_succ, List.set_cons_zero]
 refine wpQuiet_idle rfl rfl rfl ?_
 rintro _ ⟨p, rfl⟩
 have hb := below_regrown w26 p.d p.os
 generalize grow (redrawn w26 p.d) p.os = w36 at *
 replace rp0 := keep hb rp0
 replace rp1 := keep hb rp1
 replace rp2 := keep hb rp2
 replace rg5 := keep hb rg5
 replace rg6 := keep hb rg6
 replace rg7 := keep hb rg7
 replace rg8 := keep hb rg8
 replace rg9 := keep hb rg9
 replace rg10 := keep hb rg10
 replace rl11 := keep hb rl11
 replace rg12 := keep hb rg12
 replace rg13 := keep hb rg13
 replace hw := Below.after hw hb
 replace f4 := f4.below hb
 clear hb
 clear Hrp0 Hrp1 Hrp2 Hrg5 Hrg6 Hrg7 Hrg8 Hrg9 Hrg10 Hrl11 Hrg12 Hrg13
 go_wp2_with (first | (refine wpList_store_row rfl 149 _ _ rfl (w.heap.size + 1 + 1) (r4 x27 x30 x32 x35) rfl rfl 149 _ rp2 (nums_info h27.size h30.size h32.size h35.size) (nums_size h27.size h30.size h32.size h35.size).symm (r4_one h27.one h30.one h32.one h35.one) ?_) | fail)
 exact bodyPost_ret (v := .agg (r4 x27 x30 x32 x35)) (results_cell_row Tryd.results129 _ _ (w.heap.size + 1 + 1) _ (r4 x27 x30 x32 x35) _ _ rfl (setRow_heap _ _ _ _ _ _ rp2) Tryd.underlying149 rfl (nums_info h27.size h30.size h32.size h35.size)) rfl ⟨rfl, below_setRow hw (by omega) _⟩
end Go.Proofs.YtgfhoabgbgddbaaDoor
namespace Go.Proofs.YtgfhoabgbgddbaaDoor
set_option maxRecDepth 100000
open Go.RowKit Go.Sort
attribute [local go_sem] setCell_drewN alloc_drewN
set_option maxRecDepth 100000 in
set_option maxHeartbeats 8000000 in
theorem turned_walk {ra rb rc rd' : Array Value} {A B C D : Int} (ha : NumOf ra A) (hb : NumOf rb B) (hc : NumOf rc C) (hd : NumOf rd' D) (on : Bool) :
 ∃ pa pb pc pd, NumOf pa (trn on ⟨A, B, C, D⟩).a ∧ NumOf pb (trn on ⟨A, B, C, D⟩).b ∧ NumOf pc (trn on ⟨A, B, C, D⟩).c ∧ NumOf pd (trn on ⟨A, B, C, D⟩).d ∧ Gives 128 #[.agg (r4 ra rb rc rd'), .bool on] (.agg (r4 pa pb pc pd)) := by
 have c1 := a_swap ha hc on
 have c2 := a_swap hb hd on
 have hpa : NumOf (if on then rc else ra) (trn on ⟨A, B, C, D⟩).a := by cases on <;> assumption
 have hpb : NumOf (if on then rd' else rb) (trn on ⟨A, B, C, D⟩).b := by cases on <;> assumption
 have hpc : NumOf (if on then ra else rc) (trn on ⟨A, B, C, D⟩).c := by cases on <;> assumption
 have hpd : NumOf (if on then rb else rd') (trn on ⟨A, B, C, D⟩).d := by cases on <;> assumption
 generalize (if on then rc else ra) = pa at *
 generalize (if on then rd' else rb) = pb at *
 generalize (if on then ra else rc) = pc at *
 generalize (if on then rb else rd') = pd at *
 generalize trn on ⟨A, B, C, D⟩ = T at *
 refine ⟨pa, pb, pc, pd, hpa, hpb, hpc, hpd, fun w => ?_⟩
 have r0 := hp2_0 w (.cells (r4 ra rb rc rd') 149) (.cells #[.int .u64 0, .int .u64 0, .int .u64 0, .int .u64 0, .int .u64 0, .int .u64 0, .int .u64 0, .int .u64 0, .int .u64 0, .int .u64 0, .int .u64 0, .int .u64 0, .int .u64 0, .int .u64 0, .int .u64 0, .int .u64 0, .int .u64 0, .int .u64 0, .int .u64 0, .int .u64 0] 149)
 have r1 := hp2_1 w (.cells (r4 ra rb rc rd') 149) (.cells #[.int .u64 0, .int .u64 0, .int .u64 0, .int .u64 0, .int .u64 0, .int .u64 0, .int .u64 0, .int .u64 0, .int .u64 0, .int .u64 0, .int .u64 0, .int .u64 0, .int .u64 0, .int .u64 0, .int .u64 0, .int .u64 0, .int .u64 0, .int .u64 0, .int .u64 0, .int .u64 0] 149)
 have hw : Below w.heap.size w ((w.alloc (.cells (r4 ra rb rc rd') 149)).alloc (.cells #[.int .u64 0, .int .u64 0, .int .u64 0, .int .u64 0, .int .u64 0, .int .u64 0, .int .u64 0, .int .u64 0, .int .u64 0, .int .u64 0, .int .u64 0, .int .u64 0, .int .u64 0, .int .u64 0, .int .u64 0, .int .u64 0, .int .u64 0, .int .u64 0, .int .u64 0, .int .u64 0] 149)) := ((Below.refl _ _).alloc (Nat.le_refl _) _).alloc (by simp) _
 go_enter Tryd.func128, Tryd.ntmps128
 iterate 9 go_step
 generalize ((w.alloc (.cells (r4 ra rb rc rd') 149)).alloc (.cells #[.int .u64 0, .int .u64 0, .int .u64 0, .int .u64 0, .int .u64 0, .int .u64 0, .int .u64 0, .int .u64 0, .int .u64 0, .int .u64 0, .int .u64 0, .int .u64 0, .int .u64 0, .int .u64 0, .int .u64 0, .int .u64 0, .int .u64 0, .int .u64 0, .int .u64 0, .int .u64 0] 149)) = w0 at *
 go_wp2_with (first | (refine wpList_load_want rfl 149 _ rfl (w.heap.size) rfl 149 (r4 ra rb rc rd') (0, 0) _ r0 Tryd.underlying149 rfl (nums_info ha.size hb.size hc.size hd.size) ?_) | (refine wpList_load_part rfl 27 _ rfl (w.heap.size) 0 rfl 149 (r4 ra rb rc rd') (0, 0) ra _ r0 p_0 Tryd.underlying27 rfl ha.info ?_) | (refine wpList_load_part rfl 27 _ rfl (w.heap.size) 5 rfl 149 (r4 ra rb rc rd') (0, 0) rb _ r0 (p5_1 ha.size) Tryd.underlying27 rfl hb.info ?_) | (refine wpList_load_part rfl 27 _ rfl (w.heap.size) 10 rfl 149 (r4 ra rb rc rd') (0, 0) rc _ r0 (p5_2 ha.size hb.size) Tryd.underlying27 rfl hc.info ?_) | (refine wpList_load_part rfl 27 _ rfl (w.heap.size) 15 rfl 149 (r4 ra rb rc rd') (0, 0) rd' _ r0 (p5_3 ha.size hb.size hc.size) Tryd.underlying27 rfl hd.info ?_) | fail)
 refine (c1.at _).mono ?_
 rintro e w1 ⟨rfl, hb1⟩
 replace r0 := keep hb1 r0
 replace r1 := keep hb1 r1
 replace hw := Below.after hw hb1
 clear hb1
 have r0' : ((w1.setRow (w.heap.size) (r4 pa rb rc rd')).setRow (w.heap.size) (r4 pa rb pc rd')).heap[w.heap.size]? = some (.cells (r4 pa rb pc rd') 149 (0, 0)) := setRow_heap _ _ _ _ _ _ (setRow_heap _ _ _ _ _ _ r0)
 have r1' : ((w1.setRow (w.heap.size) (r4 pa rb rc rd')).setRow (w.heap.size) (r4 pa rb pc rd')).heap[w.heap.size + 1]? = some (.cells #[.int .u64 0, .int .u64 0, .int .u64 0, .int .u64 0, .int .u64 0, .int .u64 0, .int .u64 0, .int .u64 0, .int .u64 0, .int .u64 0, .int .u64 0, .int .u64 0, .int .u64 0, .int .u64 0, .int .u64 0, .int .u64 0, .int .u64 0, .int .u64 0, .int .u64 0, .int .u64 0] 149 (0, 0)) := (setRow_other _ _ _ _ (by omega)).trans ((setRow_other _ _ _ _ (by omega)).trans r1)
 have hw' : Below w.heap.size w ((w1.setRow (w.heap.size) (r4 pa rb rc rd')).setRow (w.heap.size) (r4 pa rb pc rd')) := below_setRow (below_setRow hw (Nat.le_refl _) _) (Nat.le_refl _) _
 go_wp2_with (first | (refine wpList_store_part rfl 27 _ _ rfl (w.heap.size) 0 pa rfl rfl 149 (r4 ra rb rc rd') (r4 pa rb rc rd') r0 (by rw [nums_size ha.size hb.size hc.size hd.size, hpa.size]; decide) (ovw_0 ha.size hb.size hc.size hd.size hpa.size) hpa.info hpa.one ?_) | (refine wpList_store_part rfl 27 _ _ rfl (w.heap.size) 10 pc rfl rfl 149 (r4 pa rb rc rd') (r4 pa rb pc rd') (setRow_heap w1 (w.heap.size) _ (r4 pa rb rc rd') _ _ r0) (by rw [nums_size hpa.size hb.size hc.size hd.size, hpc.size]; decide) (ovw_2 hpa.size hb.size hc.size hd.size hpc.size) hpc.info hpc.one ?_) | (refine wpList_load_want rfl 149 _ rfl (w.heap.size) rfl 149 (r4 pa rb pc rd') (0, 0) _ r0' Tryd.underlying149 rfl (nums_info hpa.size hb.size hpc.size hd.size) ?_) | (refine wpList_load_part rfl 27 _ rfl (w.heap.size) 0 rfl 149 (r4 pa rb pc rd') (0, 0) pa _ r0' p_0 Tryd.underlying27 rfl hpa.info ?_) | (refine wpList_load_part rfl 27 _ rfl (w.heap.size) 5 rfl 149 (r4 pa rb pc rd') (0, 0) rb _ r0' (p5_1 hpa.size) Tryd.underlying27 rfl hb.info ?_) | (refine wpList_load_part rfl 27 _ rfl (w.heap.size) 10 rfl 149 (r4 pa rb pc rd') (0, 0) pc _ r0' (p5_2 hpa.size hb.size) Tryd.underlying27 rfl hpc.info ?_) | (refine wpList_load_part rfl 27 _ rfl (w.heap.size) 15 rfl 149 (r4 pa rb pc rd') (0, 0) rd' _ r0' (p5_3 hpa.size hb.size hpc.size) Tryd.underlying27 rfl hd.info ?_) | fail)
 generalize ((w1.setRow (w.heap.size) (r4 pa rb rc rd')).setRow (w.heap.size) (r4 pa rb pc rd')) = w2 at *
 clear r0 r1 hw
 refine (c2.at _).mono ?_
 rintro e w3 ⟨rfl, hb1⟩
 have r0 := keep hb1 r0'
 have r1 := keep hb1 r1'
 have hw := Below.after hw' hb1
 clear hb1 r0' r1' hw'
 have r0' : ((w3.setRow (w.heap.size) (r4 pa pb pc rd')).setRow (w.heap.size) (r4 pa pb pc pd)).heap[w.heap.size]? = some (.cells (r4 pa pb pc pd) 149 (0, 0)) := setRow_heap _ _ _ _ _ _ (setRow_heap _ _ _ _ _ _ r0)
 have r1' : ((w3.setRow (w.heap.size) (r4 pa pb pc rd')).setRow (w.heap.size) (r4 pa pb pc pd)).heap[w.heap.size + 1]? = some (.cells #[.int .u64 0, .int .u64 0, .int .u64 0, .int .u64 0, .int .u64 0, .int .u64 0, .int .u64 0, .int .u64 0, .int .u64 0, .int .u64 0, .int .u64 0, .int .u64 0, .int .u64 0, .int .u64 0, .int .u64 0, .int .u64 0, .int .u64 0, .int .u64 0, .int .u64 0, .int .u64 0] 149 (0, 0)) := (setRow_other _ _ _ _ (by omega)).trans ((setRow_other _ _ _ _ (by omega)).trans r1)
 have hw' : Below w.heap.size w ((w3.setRow (w.heap.size) (r4 pa pb pc rd')).setRow (w.heap.size) (r4 pa pb pc pd)) := below_setRow (below_setRow hw (Nat.le_refl _) _) (Nat.le_refl _) _
 go_wp2_with (first | (refine wpList_store_part rfl 27 _ _ rfl (w.heap.size) 5 pb rfl rfl 149 (r4 pa rb pc rd') (r4 pa pb pc rd') r0 (by rw [nums_size hpa.size hb.size hpc.size hd.size, hpb.size]; decide) (ovw_1 hpa.size hb.size hpc.size hd.size hpb.size) hpb.info hpb.one ?_) | (refine wpList_store_part rfl 27 _ _ rfl (w.heap.size) 15 pd rfl rfl 149 (r4 pa pb pc rd') (r4 pa pb pc pd) (setRow_heap w3 (w.heap.size) _ (r4 pa pb pc rd') _ _ r0) (by rw [nums_size hpa.size hpb.size hpc.size hd.size, hpd.size]; decide) (ovw_3 hpa.size hpb.size hpc.size hd.size hpd.size) hpd.info hpd.one ?_) | (refine wpList_load_want rfl 149 _ rfl (w.heap.size) rfl 149 (r4 pa pb pc pd) (0, 0) _ r0' Tryd.underlying149 rfl (nums_info hpa.size hpb.size hpc.size hpd.size) ?_) | (refine wpList_store_row rfl 149 _ _ rfl (w.heap.size + 1) (r4 pa pb pc pd) rfl rfl 149 _ r1' (nums_info hpa.size hpb.size hpc.size hpd.size) (nums_size hpa.size hpb.size hpc.size hpd.size).symm (r4_one hpa.one hpb.one hpc.one hpd.one) ?_) | fail)
 exact bodyPost_ret (v := .agg (r4 pa pb pc pd)) (results_cell_row Tryd.results128 _ _ (w.heap.size + 1) _ (r4 pa pb pc pd) _ _ rfl (setRow_heap _ _ _ _ _ _ r1') Tryd.underlying149 rfl (nums_info hpa.size hpb.size hpc.size hpd.size)) rfl ⟨rfl, below_setRow hw' (by omega) _⟩
end Go.Proofs.YtgfhoabgbgddbaaDoor
namespace Go.Proofs.YtgfhoabgbgddbaaDoor
set_option maxRecDepth 100000
open Go.RowKit Go.Sort
attribute [local go_sem] setCell_drewN alloc_drewN
def RungOf (R : Array Value) (s : Rg) : Prop := ∃ ra rb rc rd', NumOf ra s.a ∧ NumOf rb s.b ∧ NumOf rc s.c ∧ NumOf rd' s.d ∧ R = r4 ra rb rc rd'
theorem RungOf.size {R : Array Value} {s : Rg} (h : RungOf R s) : R.size = 20 := by
 obtain ⟨_, _, _, _, ha, hb, hc, hd, rfl⟩ := h; exact nums_size ha.size hb.size hc.size hd.size
theorem RungOf.info {R : Array Value} {s : Rg} (h : RungOf R s) : (Tryd.prog.info? 149).map (·.size) = some R.size := by rw [h.size]; exact rung_info
theorem RungOf.one {R : Array Value} {s : Rg} (h : RungOf R s) : R.all (·.oneCell') = true := by
 obtain ⟨_, _, _, _, ha, hb, hc, hd, rfl⟩ := h; exact r4_one ha.one hb.one hc.one hd.one
def NextR (xr : Array Value) (on : Bool) (R R' : Array Value) : Prop := ∃ T1 T2, Gives 128 #[.agg R, .bool on] (.agg T1) ∧ Gives4 129 #[.agg T1, .agg xr] (.agg T2) ∧ Gives 128 #[.agg T2, .bool on] (.agg R')
theorem next_rung {xr R : Array Value} {X : Int} {s : Rg} (hx : NumOf xr X) (h : RungOf R s) (on : Bool) : ∃ R', RungOf R' (rnd X on s) ∧ NextR xr on R R' := by
 obtain ⟨ra, rb, rc, rd', ha, hb, hc, hd, rfl⟩ := h
 obtain ⟨pa, pb, pc, pd, ka, kb', kc, kd, c1⟩ := turned_walk ha hb hc hd on
 obtain ⟨qa, qb, qc, qd, la, lb', lc, ld, c2⟩ := up_walk ka kb' kc kd hx
 obtain ⟨ua, ub, uc, ud, ma, mb, mc, md, c3⟩ := turned_walk la lb' lc ld on
 exact ⟨_, ⟨ua, ub, uc, ud, ma, mb, mc, md, rfl⟩, _, _, c1, c2, c3⟩
theorem rungs {xr R0 : Array Value} {X : Int} (hx : NumOf xr X) (S : Int) (h0 : RungOf R0 ⟨1, 0, X, 1⟩) : ∃ F : Nat → Array Value, F 0 = R0 ∧ ∀ i, RungOf (F i) (lad S X i) ∧ NextR xr (bt S (254 - i)) (F i) (F (i + 1)) := by
 let F : (i : Nat) → {R // RungOf R (lad S X i)} := fun i => Nat.rec ⟨R0, h0⟩ (fun i p => ⟨Classical.choose (next_rung hx p.2 (bt S (254 - i))), (Classical.choose_spec (next_rung hx p.2 (bt S (254 - i)))).1⟩) i
 exact ⟨fun i => (F i).1, rfl, fun i => ⟨(F i).2, (Classical.choose_spec (next_rung hx (F i).2 (bt S (254 - i)))).2⟩⟩
set_option maxRecDepth 100000 in
set_option maxHeartbeats 8000000 in
theorem ladder_walk {xr : Array Value} {X : Int} (hx : NumOf xr X) (S : Int) : ∃ t, NumOf t (scn S X) ∧ ∀ (w : World) (gk : Nat), Four w → w.heap[gk]? = some (.cells (kb S) 23 (0, 0)) →
 Calls Tryd.prog 107 #[.func (.func 106) #[] #[.pointer (some ⟨gk, 0, none⟩)], .agg xr] w fun e w' => e = .returned (.agg t) ∧ Below w.heap.size w w' := by
 obtain ⟨o1, ho1, co⟩ := a_small 1 (by decide) (by decide)
 have hR0 : RungOf (r4 o1 #[.int .u64 0, .int .u64 0, .int .u64 0, .int .u64 0, .int .u64 0] xr o1) ⟨1, 0, X, 1⟩ := ⟨o1, #[.int .u64 0, .int .u64 0, .int .u64 0, .int .u64 0, .int .u64 0], xr, o1, ho1, num_zero, hx, ho1, rfl⟩
 obtain ⟨F, hF0, hFs⟩ := rungs hx S hR0
 obtain ⟨ra, rb, rc, rd', ha, hb, hc, hd', hF255⟩ := (hFs 255).1
 obtain ⟨xi, hxi, ci⟩ := a_invert hb
 replace hxi := hxi.congr (Int.emod_emod _ _).symm
 obtain ⟨xm, hxm, cm⟩ := b_mul ha hxi
 refine ⟨xm, hxm, fun w gk hF hgk => ?_⟩
 change NumOf xm (scn S X) at hxm
 generalize (lad S X 255).b ^ 57896044618658097711785492504343953926634992332820282019728792003956564819947 % prm = q at hxi
 generalize scn S X = Y at hxm
 go_enter Tryd.func107, Tryd.ntmps107
 go_wp2
 have rp0 : ((w.alloc (.cells xr 27)).alloc (.cells #[.int .u64 0, .int .u64 0, .int .u64 0, .int .u64 0, .int .u64 0] 27)).heap[w.heap.size]? = some (.cells xr 27 (0, 0)) := hp2_0 w _ _
 have rp1 : ((w.alloc (.cells xr 27)).alloc (.cells #[.int .u64 0, .int .u64 0, .int .u64 0, .int .u64 0, .int .u64 0] 27)).heap[w.heap.size + 1]? = some (.cells #[.int .u64 0, .int .u64 0, .int .u64 0, .int .u64 0, .int .u64 0] 27 (0, 0)) := hp2_1 w _ _
 have hw : Below w.heap.size w ((w.alloc (.cells xr 27)).alloc (.cells #[.int .u64 0, .int .u64 0, .int .u64 0, .int .u64 0, .int .u64 0] 27)) := (((Below.refl _ _).alloc (Nat.le_refl _) _).alloc (by simp) _)
 have hz0 := hF.1
 have f4 : Four ((w.alloc (.cells xr 27)).alloc (.cells #[.int .u64 0, .int .u64 0, .int .u64 0, .int .u64 0, .int .u64 0] 27)) := ((hF.alloc _).alloc _)
 generalize ((w.alloc (.cells xr 27)).alloc (.cells #[.int .u64 0, .int .u64 0, .int .u64 0, .int .u64 0, .int .u64 0] 27)) = w0 at *
 refine wp_region_alloc_ex 4 5 [5] (fun _ => .cells #[.int .u64 0, .int .u64 0, .int .u64 0, .int .u64 0, .int .u64 0, .int .u64 0, .int .u64 0, .int .u64 0, .int .u64 0, .int .u64 0, .int .u64 0, .int .u64 0, .int .u64 0, .int .u64 0, .int .u64 0, .int .u64 0, .int .u64 0, .int .u64 0, .int .u64 0, .int .u64 0] 149 (0, 0)) (by kernel_rfl) (by decide) (by decide) (by kernel_rfl) (by kernel_rfl) (by kernel_rfl) (by kernel_rfl) (by kernel_rfl) (by kernel_rfl) (by kernel_rfl) (by kernel_rfl) (by decide) (by decide) ?_ ?_
 ·intro s l u
  rcases (by omega : s = 4) with rfl <;> exact ⟨_, _, rfl, rfl, rfl, rfl, fun a w => by kernel_rfl⟩
 apply Exists.intro
 constructor
 ·intro v1 hb
  have Hrp0 := keepr (keep hb rp0)
  have Hrp1 := keepr (keep hb rp1)
  have F4 := f4.below hb
  clear hb; dsimp only [List.take]
  go_big_quiet_step (exact co.re)
  refine wpQuiet_load_row rfl 27 _ rfl (w.heap.size) rfl 27 xr (0, 0) _ Hrp0.out Tryd.underlying27 rfl hx.info ?_
  simp only [Act.put, List.setIfInBounds_toArray, List.set_cons_succ, List.set_cons_zero]
  go_big_quiet_step (exact co.re)
  refine wpQuiet_build rfl 149 _ rfl [(0, .agg o1), (2, .agg xr), (3, .agg o1)] rfl (r4 o1 #[.int .u64 0, .int .u64 0, .int .u64 0, .int .u64 0, .int .u64 0] xr o1) (nums_built3 ho1.size hx.size ho1.size) ?_
  simp only [Act.put, List.setIfInBounds_toArray, List.set_cons_succ, List.set_cons_zero]
  refine wpQuiet_nil ?_
  rfl
 intro w3 g hb hg hd
 obtain ⟨lg5, rg5⟩ := hg 5 (by simp)
 replace rg5 : w3.heap[g 5]? = some (.cells #[.int .u64 0, .int .u64 0, .int .u64 0, .int .u64 0, .int .u64 0, .int .u64 0, .int .u64 0, .int .u64 0, .int .u64 0, .int .u64 0, .int .u64 0, .int .u64 0, .int .u64 0, .int .u64 0, .int .u64 0, .int .u64 0, .int .u64 0, .int .u64 0, .int .u64 0, .int .u64 0] 149 (0, 0)) := rg5
 simp only [List.drop, puts, ptrs, List.map, List.foldl, Act.put, List.setIfInBounds_toArray, List.set_cons_succ, List.set_cons_zero]
 clear hg hd
 generalize g 5 = gp at *
 have lrp0 := lt_of_row rp0
 have lrp1 := lt_of_row rp1
 have hs := hw.size
 have hz := f4.1
 replace rp0 := keep hb rp0
 replace rp1 := keep hb rp1
 replace hw := Below.after hw hb
 replace f4 := f4.below hb
 clear hb
 refine wpList_store_row rfl 149 _ _ rfl gp (r4 o1 #[.int .u64 0, .int .u64 0, .int .u64 0, .int .u64 0, .int .u64 0] xr o1) rfl rfl 149 _ rg5 (nums_info ho1.size num_zero.size hx.size ho1.size) (nums_size ho1.size num_zero.size hx.size ho1.size).symm (r4_one ho1.one num_zero.one hx.one ho1.one) ?_
 simp only [Act.put]
 replace rp0 := (setRow_other w3 gp (w.heap.size) (r4 o1 #[.int .u64 0, .int .u64 0, .int .u64 0, .int .u64 0, .int .u64 0] xr o1) (by omega)).trans rp0
 replace rp1 := (setRow_other w3 gp (w.heap.size + 1) (r4 o1 #[.int .u64 0, .int .u64 0, .int .u64 0, .int .u64 0, .int .u64 0] xr o1) (by omega)).trans rp1
 replace rg5 := setRow_heap w3 gp _ (r4 o1 #[.int .u64 0, .int .u64 0, .int .u64 0, .int .u64 0, .int .u64 0] xr o1) _ _ rg5
 replace hw := below_setRow hw (show w.heap.size ≤ gp by omega) (r4 o1 #[.int .u64 0, .int .u64 0, .int .u64 0, .int .u64 0, .int .u64 0] xr o1)
 replace f4 := f4.setRow (show 3 < gp by omega) (r4 o1 #[.int .u64 0, .int .u64 0, .int .u64 0, .int .u64 0, .int .u64 0] xr o1)
 generalize w3.setRow gp (r4 o1 #[.int .u64 0, .int .u64 0, .int .u64 0, .int .u64 0, .int .u64 0] xr o1) = w4 at *
 have ygp_0 : w.heap.size < gp := by omega
 have ygp_1 : w.heap.size + 1 < gp := by omega
 have ygp : w.heap.size ≤ gp := by omega
 have zgp : 3 < gp := by omega
 clear hs hz lrp0 lrp1 lg5
 go_wp2
 go_loopw [12] (fun i wr => ∃ k : Nat, k ≤ 255 ∧ i = .int .i64 k ∧ wr.heap[w.heap.size]? = some (.cells xr 27 (0, 0)) ∧ wr.heap[w.heap.size + 1]? = some (.cells #[.int .u64 0, .int .u64 0, .int .u64 0, .int .u64 0, .int .u64 0] 27 (0, 0)) ∧ wr.heap[gp]? = some (.cells (F k) 149 (0, 0)) ∧ Four wr ∧ Below w.heap.size w wr) (fun i _ => 255 - (intOf i).toNat)
 case atStart => exact ⟨0, by omega, rfl, rp0, rp1, by rw [hF0]; exact rg5, f4, hw⟩
 case round =>
  clear rp0 rp1 rg5 f4 hw
  obtain ⟨k, hk, rfl, rp0, rp1, rg5, f4, hw⟩ := hrel
  by_cases hlt : k < 255
  ·have hd : decide ((k : Int) < 255) = true := by simp; omega
   have cb := bit_any S gk (254 - k) (by omega) wr ((hw.block gk (lt_of_row hgk)).trans hgk)
   rw [show ((254 - k : Nat) : Int) = 254 - (k : Int) by omega] at cb
   obtain ⟨hRk, T1, T2, cT1, cT2, cT3⟩ := hFs k
   have hRn := (hFs (k + 1)).1
   generalize hFk : F k = Rk at *
   generalize hFn : F (k + 1) = Rn at *
   generalize bt S (254 - k) = on at *
   go_wp2_with (first | fail)
   refine cb.mono ?_
   rintro e w1 ⟨rfl, hb⟩
   replace rp0 := keep hb rp0
   replace rp1 := keep hb rp1
   replace rg5 := keep hb rg5
   replace hw := Below.after hw hb
   replace f4 := f4.below hb
   clear hb
   go_wp2_with (first | fail)
   have Hrp0 := keepr rp0
   have Hrp1 := keepr rp1
   have Hrg5 := keepr rg5
   refine wp_region_tail (C := fun w' => ∃ p : Regrown, w' = grow (redrawn w1 p.d) p.os) 7 _ rfl rfl rfl (by kernel_rfl) (by kernel_rfl) (by kernel_rfl) (by kernel_rfl) ⟨⟨w1.drawn + 1, #[]⟩, by rw [grow_empty]; rfl⟩ ?_
   dsimp only [List.set, idle]
   refine wpQuiet_load_row rfl 149 _ rfl (gp) rfl 149 Rk (0, 0) _ Hrg5.out Tryd.underlying149 rfl hRk.info ?_
   simp only [Act.put, List.setIfInBounds_toArray, List.set_cons_succ, List.set_cons_zero]
   go_big_quiet_step (fail)
   go_big_quiet_step (exact cT1.re)
   refine wpQuiet_load_row rfl 27 _ rfl (w.heap.size) rfl 27 xr (0, 0) _ Hrp0.out Tryd.underlying27 rfl hx.info ?_
   simp only [Act.put, List.setIfInBounds_toArray, List.set_cons_succ, List.set_cons_zero]
   go_big_quiet_step (exact cT2.re f4)
   go_big_quiet_step (fail)
   go_big_quiet_step (exact cT3.re)
   refine wpQuiet_idle rfl rfl rfl ?_
   rintro _ ⟨p, rfl⟩
   have hb := below_regrown w1 p.d p.os
   generalize grow (redrawn w1 p.d) p.os = w8 at *
   replace rp0 := keep hb rp0
   replace rp1 := keep hb rp1
   replace rg5 := keep hb rg5
   replace hw := Below.after hw hb
   replace f4 := f4.below hb
   clear hb
   clear Hrp0 Hrp1 Hrg5
   go_wp2_with (first | (refine wpList_store_row rfl 149 _ _ rfl (gp) Rn rfl rfl 149 _ rg5 hRn.info (hRk.size.trans hRn.size.symm) hRn.one ?_) | fail)
   go_roundw
   case rel => exact ⟨k + 1, by omega, by go_num, (setRow_other w8 gp (w.heap.size) Rn (by omega)).trans rp0, (setRow_other w8 gp (w.heap.size + 1) Rn (by omega)).trans rp1, by rw [hFn]; exact setRow_heap w8 gp _ Rn _ _ rg5, f4.setRow (by omega) Rn, below_setRow hw (by omega) Rn⟩
   case measure => simp [intOf]; omega
  ·obtain rfl : k = 255 := by omega
   have hd : decide (((255 : Nat) : Int) < 255) = false := by decide
   rw [hF255] at rg5
   clear hFs
   go_wp2_with (first | fail)
   have Hrp0 := keepr rp0
   have Hrp1 := keepr rp1
   have Hrg5 := keepr rg5
   refine wp_region_tail (C := fun w' => ∃ p : Regrown, w' = grow (redrawn wr p.d) p.os) 6 _ rfl rfl rfl (by kernel_rfl) (by kernel_rfl) (by kernel_rfl) (by kernel_rfl) ⟨⟨wr.drawn + 1, #[]⟩, by rw [grow_empty]; rfl⟩ ?_
   dsimp only [List.set, idle]
   go_big_quiet_step (fail)
   refine wpQuiet_load_part rfl 27 _ rfl (gp) 0 rfl 149 (r4 ra rb rc rd') (0, 0) ra _ Hrg5.out p_0 Tryd.underlying27 rfl ha.info ?_
   simp only [Act.put, List.setIfInBounds_toArray, List.set_cons_succ, List.set_cons_zero]
   go_big_quiet_step (fail)
   refine wpQuiet_load_part rfl 27 _ rfl (gp) 5 rfl 149 (r4 ra rb rc rd') (0, 0) rb _ Hrg5.out (p5_1 ha.size) Tryd.underlying27 rfl hb.info ?_
   simp only [Act.put, List.setIfInBounds_toArray, List.set_cons_succ, List.set_cons_zero]
   go_big_quiet_step (exact ci.re)
   go_big_quiet_step (exact cm.re)
   refine wpQuiet_idle rfl rfl rfl ?_
   rintro _ ⟨p, rfl⟩
   have hb := below_regrown wr p.d p.os
   generalize grow (redrawn wr p.d) p.os = w11 at *
   replace rp0 := keep hb rp0
   replace rp1 := keep hb rp1
   replace rg5 := keep hb rg5
   replace hw := Below.after hw hb
   replace f4 := f4.below hb
   clear hb
   clear Hrp0 Hrp1 Hrg5
   go_wp2_with (first | (refine wpList_store_row rfl 27 _ _ rfl (w.heap.size + 1) xm rfl rfl 27 _ rp1 hxm.info (hxm.fits rfl) hxm.one ?_) | fail)
   exact bodyPost_ret (v := .agg xm) (results_cell_row Tryd.results107 _ _ (w.heap.size + 1) _ xm _ _ rfl (setRow_heap _ _ _ _ _ _ rp1) Tryd.underlying27 rfl hxm.info) rfl ⟨rfl, below_setRow hw (by omega) _⟩
end Go.Proofs.YtgfhoabgbgddbaaDoor

