import Derived.Test.YtgfhoabgbgddbaaDoorProg
import Derived.WalkKit
import Derived.WalkSpells
import Derived.WalkLawsBesides
import Derived.Lib.QuietBelow
import Derived.BigQuiet
import Derived.Test.YtgfhoabgbgddbaaDoorCpKa
import Derived.Test.YtgfhoabgbgddbaaDoorCpDrb
import Derived.Test.YtgfhoabgbgddbaaDoorCpDwc
import Derived.Test.YtgfhoabgbgddbaaDoorCpDwi
namespace Go.Proofs.YtgfhoabgbgddbaaDoor
set_option maxRecDepth 100000
open Go.RowKit Go.Sort
attribute [local go_sem] setCell_drewN alloc_drewN
theorem n5 : ¬ Zp 5 := by unfold Zp; decide
theorem base_aux {y z : Int} (h1 : Zp (5 * y - 4)) (h2 : Zp (5 * z - 1)) : Zp (4 * z - y) := zp_lin2 (-z) y h1 h2 (by grind)
theorem base_y' {z : Int} (h : Zp (5 * z - 1)) : 4 * z % prm = bp.y := mod_of (base_aux (by unfold Zp; decide +kernel) h) (y_bd bp).1 (y_bd bp).2
theorem base_has {z : Int} (h : Zp (5 * z - 1)) : has (4 * z) false = true := by
 cases hh : has (4 * z) false with
 | true => rfl
 | false => exact absurd (by rw [bp_tx]; decide) (has_none hh bp (base_y' h).symm)
theorem base_x {z : Int} (h : Zp (5 * z - 1)) : Zp (xo (4 * z) false - tx bp) := by
 obtain ⟨P, hy, hx, hp⟩ := has_some (base_has h)
 have e : P = bp := pb_inj (by unfold pb; rw [hy, base_y' h, hp, bp_tx]; decide)
 rw [← e, hx]
 exact zp_lin1 (-1) (zp_emod (xo (4 * z) false)) (by grind)
set_option maxRecDepth 100000 in
set_option maxHeartbeats 8000000 in
theorem r_Base19 : ∃ t, ReO t bp ∧ Gives 19 #[] (.agg t) := by
 obtain ⟨x1, h1, c1⟩ := n_small 4 (by decide) (by decide)
 obtain ⟨x3, h3, c3⟩ := n_small 5 (by decide) (by decide)
 obtain ⟨x5, h5, c5⟩ := n_inv h3
 obtain ⟨x7, h7, c7⟩ := n_mul h1 h5
 obtain ⟨tv, htv, cX⟩ := r_onX (odd := false) h7
 rw [base_has (iv_mul n5), if_pos rfl] at htv
 rw [base_has (iv_mul n5)] at cX
 obtain ⟨x11, h11, c11⟩ := n_small 1 (by decide) (by decide)
 refine ⟨_, ⟨tv, x7, x11, _, _, _, rfl, htv, h7, h11, rp_flat (base_x (iv_mul n5)) (by rw [← base_y' (iv_mul n5)]; exact zp_lin1 (-1) (zp_emod (4 * iv 5)) (by grind))⟩, fun w => ?_⟩
 go_enter Tryd.func19, Tryd.ntmps19
 iterate 6 go_step
 generalize hal_ : (w.alloc (.cells #[.int .u64 0, .int .u64 0, .int .u64 0, .int .u64 0, .int .u64 0, .int .u64 0, .int .u64 0, .int .u64 0, .int .u64 0, .int .u64 0, .int .u64 0, .int .u64 0, .int .u64 0, .int .u64 0, .int .u64 0, .int .u64 0, .int .u64 0, .int .u64 0, .int .u64 0, .int .u64 0, .int .u64 0, .int .u64 0, .int .u64 0, .int .u64 0, .int .u64 0, .int .u64 0, .int .u64 0, .int .u64 0, .int .u64 0, .int .u64 0, .int .u64 0, .int .u64 0, .int .u64 0, .int .u64 0, .int .u64 0, .int .u64 0, .int .u64 0, .int .u64 0, .int .u64 0, .int .u64 0, .int .u64 0, .int .u64 0, .int .u64 0, .int .u64 0, .int .u64 0, .int .u64 0, .int .u64 0, .int .u64 0] 37)) = w0
 have rp0 : w0.heap[w.heap.size]? = some (.cells #[.int .u64 0, .int .u64 0, .int .u64 0, .int .u64 0, .int .u64 0, .int .u64 0, .int .u64 0, .int .u64 0, .int .u64 0, .int .u64 0, .int .u64 0, .int .u64 0, .int .u64 0, .int .u64 0, .int .u64 0, .int .u64 0, .int .u64 0, .int .u64 0, .int .u64 0, .int .u64 0, .int .u64 0, .int .u64 0, .int .u64 0, .int .u64 0, .int .u64 0, .int .u64 0, .int .u64 0, .int .u64 0, .int .u64 0, .int .u64 0, .int .u64 0, .int .u64 0, .int .u64 0, .int .u64 0, .int .u64 0, .int .u64 0, .int .u64 0, .int .u64 0, .int .u64 0, .int .u64 0, .int .u64 0, .int .u64 0, .int .u64 0, .int .u64 0, .int .u64 0, .int .u64 0, .int .u64 0, .int .u64 0] 37 (0, 0)) := by rw [← hal_]; exact hp1_0 w _
 have hw : Below w.heap.size w w0 := by rw [← hal_]; exact ((Below.refl _ _).alloc (Nat.le_refl _) _)
 clear hal_
 go_wp2_with (first | (refine wpList_load_want rfl 37 _ rfl (w.heap.size) rfl 37 #[.int .u64 0, .int .u64 0, .int .u64 0, .int .u64 0, .int .u64 0, .int .u64 0, .int .u64 0, .int .u64 0, .int .u64 0, .int .u64 0, .int .u64 0, .int .u64 0, .int .u64 0, .int .u64 0, .int .u64 0, .int .u64 0, .int .u64 0, .int .u64 0, .int .u64 0, .int .u64 0, .int .u64 0, .int .u64 0, .int .u64 0, .int .u64 0, .int .u64 0, .int .u64 0, .int .u64 0, .int .u64 0, .int .u64 0, .int .u64 0, .int .u64 0, .int .u64 0, .int .u64 0, .int .u64 0, .int .u64 0, .int .u64 0, .int .u64 0, .int .u64 0, .int .u64 0, .int .u64 0, .int .u64 0, .int .u64 0, .int .u64 0, .int .u64 0, .int .u64 0, .int .u64 0, .int .u64 0, .int .u64 0] (0, 0) _ rp0 Tryd.underlying37 rfl (by kernel_rfl) ?_) | fail)
 refine (c1.at _).mono ?_
 rintro e w2 ⟨rfl, hb⟩
 replace rp0 := keep hb rp0
 replace hw := Below.after hw hb
 clear hb
 go_wp2_with (first | (refine wpList_load_want rfl 37 _ rfl (w.heap.size) rfl 37 #[.int .u64 0, .int .u64 0, .int .u64 0, .int .u64 0, .int .u64 0, .int .u64 0, .int .u64 0, .int .u64 0, .int .u64 0, .int .u64 0, .int .u64 0, .int .u64 0, .int .u64 0, .int .u64 0, .int .u64 0, .int .u64 0, .int .u64 0, .int .u64 0, .int .u64 0, .int .u64 0, .int .u64 0, .int .u64 0, .int .u64 0, .int .u64 0, .int .u64 0, .int .u64 0, .int .u64 0, .int .u64 0, .int .u64 0, .int .u64 0, .int .u64 0, .int .u64 0, .int .u64 0, .int .u64 0, .int .u64 0, .int .u64 0, .int .u64 0, .int .u64 0, .int .u64 0, .int .u64 0, .int .u64 0, .int .u64 0, .int .u64 0, .int .u64 0, .int .u64 0, .int .u64 0, .int .u64 0, .int .u64 0] (0, 0) _ rp0 Tryd.underlying37 rfl (by kernel_rfl) ?_) | fail)
 refine (c3.at _).mono ?_
 rintro e w4 ⟨rfl, hb⟩
 replace rp0 := keep hb rp0
 replace hw := Below.after hw hb
 clear hb
 go_wp2_with (first | (refine wpList_load_want rfl 37 _ rfl (w.heap.size) rfl 37 #[.int .u64 0, .int .u64 0, .int .u64 0, .int .u64 0, .int .u64 0, .int .u64 0, .int .u64 0, .int .u64 0, .int .u64 0, .int .u64 0, .int .u64 0, .int .u64 0, .int .u64 0, .int .u64 0, .int .u64 0, .int .u64 0, .int .u64 0, .int .u64 0, .int .u64 0, .int .u64 0, .int .u64 0, .int .u64 0, .int .u64 0, .int .u64 0, .int .u64 0, .int .u64 0, .int .u64 0, .int .u64 0, .int .u64 0, .int .u64 0, .int .u64 0, .int .u64 0, .int .u64 0, .int .u64 0, .int .u64 0, .int .u64 0, .int .u64 0, .int .u64 0, .int .u64 0, .int .u64 0, .int .u64 0, .int .u64 0, .int .u64 0, .int .u64 0, .int .u64 0, .int .u64 0, .int .u64 0, .int .u64 0] (0, 0) _ rp0 Tryd.underlying37 rfl (by kernel_rfl) ?_) | fail)
 refine (c5.at _).mono ?_
 rintro e w6 ⟨rfl, hb⟩
 replace rp0 := keep hb rp0
 replace hw := Below.after hw hb
 clear hb
 go_wp2_with (first | (refine wpList_load_want rfl 37 _ rfl (w.heap.size) rfl 37 #[.int .u64 0, .int .u64 0, .int .u64 0, .int .u64 0, .int .u64 0, .int .u64 0, .int .u64 0, .int .u64 0, .int .u64 0, .int .u64 0, .int .u64 0, .int .u64 0, .int .u64 0, .int .u64 0, .int .u64 0, .int .u64 0, .int .u64 0, .int .u64 0, .int .u64 0, .int .u64 0, .int .u64 0, .int .u64 0, .int .u64 0, .int .u64 0, .int .u64 0, .int .u64 0, .int .u64 0, .int .u64 0, .int .u64 0, .int .u64 0, .int .u64 0, .int .u64 0, .int .u64 0, .int .u64 0, .int .u64 0, .int .u64 0, .int .u64 0, .int .u64 0, .int .u64 0, .int .u64 0, .int .u64 0, .int .u64 0, .int .u64 0, .int .u64 0, .int .u64 0, .int .u64 0, .int .u64 0, .int .u64 0] (0, 0) _ rp0 Tryd.underlying37 rfl (by kernel_rfl) ?_) | fail)
 refine (c7.at _).mono ?_
 rintro e w8 ⟨rfl, hb⟩
 replace rp0 := keep hb rp0
 replace hw := Below.after hw hb
 clear hb
 go_wp2_with (first | (refine wpList_store_row rfl 35 _ _ rfl (w8.heap.size) x7 rfl rfl 35 #[.int .u64 0, .int .u64 0, .int .u64 0, .int .u64 0, .int .u64 0, .int .u64 0, .int .u64 0, .int .u64 0, .int .u64 0, .int .u64 0, .int .u64 0, .int .u64 0, .int .u64 0, .int .u64 0, .int .u64 0, .int .u64 0] (hp1_0 w8 _) h7.info (h7.fits rfl) h7.one ?_; rw [setRow_alloc_new _ _ _ _ _ _ (by simp)]; refine wpList_stay ?_) | fail)
 unfold WpStay
 try simp only [Act.put]
 have rl1 : (w8.alloc (.cells x7 35)).heap[w8.heap.size]? = some (.cells x7 35 (0, 0)) := hp1_0 w8 _
 have hb : Below w8.heap.size w8 (w8.alloc (.cells x7 35)) := ((Below.refl _ _).alloc (Nat.le_refl _) _)
 generalize (w8.alloc (.cells x7 35)) = wy at *
 have ygy_0 := lt_of_row rp0
 have ygy := hw.size
 replace rp0 := keep hb rp0
 replace hw := Below.after hw hb
 clear hb
 generalize w8.heap.size = gy at *
 clear w8
 go_wp2_with (first | (refine wpList_load_want rfl 37 _ rfl (w.heap.size) rfl 37 #[.int .u64 0, .int .u64 0, .int .u64 0, .int .u64 0, .int .u64 0, .int .u64 0, .int .u64 0, .int .u64 0, .int .u64 0, .int .u64 0, .int .u64 0, .int .u64 0, .int .u64 0, .int .u64 0, .int .u64 0, .int .u64 0, .int .u64 0, .int .u64 0, .int .u64 0, .int .u64 0, .int .u64 0, .int .u64 0, .int .u64 0, .int .u64 0, .int .u64 0, .int .u64 0, .int .u64 0, .int .u64 0, .int .u64 0, .int .u64 0, .int .u64 0, .int .u64 0, .int .u64 0, .int .u64 0, .int .u64 0, .int .u64 0, .int .u64 0, .int .u64 0, .int .u64 0, .int .u64 0, .int .u64 0, .int .u64 0, .int .u64 0, .int .u64 0, .int .u64 0, .int .u64 0, .int .u64 0, .int .u64 0] (0, 0) _ rp0 Tryd.underlying37 rfl (by kernel_rfl) ?_) | (refine wpList_load_want rfl 35 _ rfl (gy) rfl 35 x7 (0, 0) _ rl1 Tryd.underlying35 rfl h7.info ?_) | fail)
 refine (cX.at _).mono ?_
 rintro e w10 ⟨rfl, hb⟩
 replace rp0 := keep hb rp0
 replace rl1 := keep hb rl1
 replace hw := Below.after hw hb
 clear hb
 go_wp2_with (first | (refine wpList_store_row rfl 35 _ _ rfl (w10.heap.size) tv rfl rfl 35 #[.int .u64 0, .int .u64 0, .int .u64 0, .int .u64 0, .int .u64 0, .int .u64 0, .int .u64 0, .int .u64 0, .int .u64 0, .int .u64 0, .int .u64 0, .int .u64 0, .int .u64 0, .int .u64 0, .int .u64 0, .int .u64 0] (hp1_0 w10 _) htv.info (htv.fits rfl) htv.one ?_; rw [setRow_alloc_new _ _ _ _ _ _ (by simp)]; refine wpList_stay ?_) | fail)
 unfold WpStay
 try simp only [Act.put]
 have rl2 : (w10.alloc (.cells tv 35)).heap[w10.heap.size]? = some (.cells tv 35 (0, 0)) := hp1_0 w10 _
 have hb : Below w10.heap.size w10 (w10.alloc (.cells tv 35)) := ((Below.refl _ _).alloc (Nat.le_refl _) _)
 generalize (w10.alloc (.cells tv 35)) = wx at *
 have ygx_0 := lt_of_row rp0
 have ygx_1 := lt_of_row rl1
 have ygx := hw.size
 replace rp0 := keep hb rp0
 replace rl1 := keep hb rl1
 replace hw := Below.after hw hb
 clear hb
 generalize w10.heap.size = gx at *
 clear w10
 go_wp2_with (fail)
 have Hrp0 := keepr rp0
 have Hrl1 := keepr rl1
 have Hrl2 := keepr rl2
 refine wp_region_tail (C := fun w' => ∃ p : Regrown, w' = grow (redrawn wx p.d) p.os) 4 _ rfl rfl rfl (by kernel_rfl) (by kernel_rfl) (by kernel_rfl) (by kernel_rfl) ⟨⟨wx.drawn + 1, #[]⟩, by rw [grow_empty]; rfl⟩ ?_
 dsimp only [List.set, idle]
 refine wpQuiet_load_row rfl 35 _ rfl (gx) rfl 35 tv (0, 0) _ Hrl2.out Tryd.underlying35 rfl htv.info ?_
 simp only [Act.put, List.setIfInBounds_toArray, List.set_cons_succ, List.set_cons_zero]
 refine wpQuiet_load_row rfl 35 _ rfl (gy) rfl 35 x7 (0, 0) _ Hrl1.out Tryd.underlying35 rfl h7.info ?_
 simp only [Act.put, List.setIfInBounds_toArray, List.set_cons_succ, List.set_cons_zero]
 go_big_quiet_step (exact c11.re)
 refine wpQuiet_build rfl 37 _ rfl [(0, .agg tv), (1, .agg x7), (2, .agg x11)] rfl (r3 tv x7 x11) (q3_built htv.size h7.size h11.size) ?_
 simp only [Act.put, List.setIfInBounds_toArray, List.set_cons_succ, List.set_cons_zero]
 refine wpQuiet_idle rfl rfl rfl ?_
 rintro _ ⟨p, rfl⟩
 have hb := below_regrown wx p.d p.os
 generalize grow (redrawn wx p.d) p.os = w12 at *
 replace rp0 := keep hb rp0
 replace rl1 := keep hb rl1
 replace rl2 := keep hb rl2
 replace hw := Below.after hw hb
 clear hb
 clear Hrp0 Hrl1 Hrl2
 go_wp2_with (first | (refine wpList_store_row rfl 37 _ _ rfl (w.heap.size) (r3 tv x7 x11) rfl rfl 37 _ rp0 (q3_info htv.size h7.size h11.size) ((show _ = 48 from rfl).trans (r3_size htv.size h7.size h11.size).symm) (r3_one htv.one h7.one h11.one) ?_) | fail)
 exact bodyPost_ret (v := .agg (r3 tv x7 x11)) (results_cell_row Tryd.results19 _ _ (w.heap.size) _ (r3 tv x7 x11) _ _ rfl (setRow_heap _ _ _ _ _ _ rp0) Tryd.underlying37 rfl (q3_info htv.size h7.size h11.size)) rfl ⟨rfl, below_setRow hw (by omega) _⟩
theorem eq_pb (P : E1) : ∀ W, (Op.equalIn 10000 23 (.agg (kb (pb P))) (.agg (kb (pb P)))).run Tryd.prog W = .ok true W := fun W => by rw [kb_equal _ _ (pb_bd P).1 (pb_bd P).2 (pb_bd P).1 (pb_bd P).2]; simp
set_option maxRecDepth 100000 in
set_option maxHeartbeats 8000000 in
theorem parses_aux {k t1 t2 t3 t4 t5 t6 : Array Value} {N E G : Int} {P Q B : E1} {odd : Bool} (hk : KeyOf k N) (h1 : PtO t1 P) (h2 : ReO t2 P) (h3 : PtO t3 Q) (h4 : ReO t4 Q) (h5 : PtO t5 B) (h6 : ReO t6 B) (c1 : Gives5 12 #[.agg k] (.tuple #[.agg t1, .int .i64 E])) (c2 : Gives 13 #[.agg k] (.tuple #[.agg t2, .int .i64 E])) (c3 : Gives5 14 #[.agg k, .bool odd] (.tuple #[.agg t3, .int .i64 G])) (c4 : Gives 15 #[.agg k, .bool odd] (.tuple #[.agg t4, .int .i64 G])) (c5 : GivesE 18 #[] (.agg t5)) (c6 : Gives 19 #[] (.agg t6)) (w : World) (hF : Edw w) : Calls Tryd.prog 3 #[.agg k, .bool odd] w fun e w' => e = .returned (.bool true) ∧ Below w.heap.size w w' := by
 have q1 := eq_pb P
 have q2 := eq_pb Q
 have q3 := eq_pb B
 have c10_ := a_Bytes h1
 have c11_ := r_Bytes19 h2
 have c12_ := a_Bytes h3
 have c13_ := r_Bytes19 h4
 have c15_ := a_Bytes h5
 have c17_ := r_Bytes19 h6
 have rp0 : (w.alloc (.cells k 23)).heap[w.heap.size]? = some (.cells k 23 (0, 0)) := hp1_0 w _
 have hw : Below w.heap.size w (w.alloc (.cells k 23)) := ((Below.refl _ _).alloc (Nat.le_refl _) _)
 have hz0 := hF.sz
 have f4 : Edw (w.alloc (.cells k 23)) := (hF.alloc _)
 go_enter Tryd.func3, Tryd.ntmps3
 iterate 9 go_step
 generalize (w.alloc (.cells k 23)) = w0 at *
 go_wp2_with (first | (refine wpList_load_want rfl 23 _ rfl (w.heap.size) rfl 23 k (0, 0) _ rp0 Tryd.underlying23 rfl hk.info ?_) | fail)
 refine (c1.at f4.1).mono ?_
 rintro e w2 ⟨rfl, hb⟩
 replace rp0 := keep hb rp0
 replace hw := Below.after hw hb
 replace f4 := f4.below hb
 clear hb
 go_wp2_with (first | (refine wpList_store_row rfl 29 _ _ rfl (w2.heap.size) t1 rfl rfl 29 #[.int .u64 0, .int .u64 0, .int .u64 0, .int .u64 0, .int .u64 0, .int .u64 0, .int .u64 0, .int .u64 0, .int .u64 0, .int .u64 0, .int .u64 0, .int .u64 0, .int .u64 0, .int .u64 0, .int .u64 0, .int .u64 0, .int .u64 0, .int .u64 0, .int .u64 0, .int .u64 0] (hp1_0 w2 _) h1.info (h1.size).symm h1.one ?_; rw [setRow_alloc_new _ _ _ _ _ _ (by simp)]; refine wpList_stay ?_) | fail)
 unfold WpStay
 try simp only [Act.put]
 have rl5 : (w2.alloc (.cells t1 29)).heap[w2.heap.size]? = some (.cells t1 29 (0, 0)) := hp1_0 w2 _
 have hb : Below w2.heap.size w2 (w2.alloc (.cells t1 29)) := ((Below.refl _ _).alloc (Nat.le_refl _) _)
 generalize (w2.alloc (.cells t1 29)) = wa at *
 have yga_0 := lt_of_row rp0
 have yga := hw.size
 have zga := f4.sz
 replace rp0 := keep hb rp0
 replace hw := Below.after hw hb
 replace f4 := f4.below hb
 clear hb
 generalize w2.heap.size = ga at *
 clear w2
 go_wp2_with (first | (refine wpList_load_want rfl 23 _ rfl (w.heap.size) rfl 23 k (0, 0) _ rp0 Tryd.underlying23 rfl hk.info ?_) | (refine wpList_load_want rfl 29 _ rfl (ga) rfl 29 t1 (0, 0) _ rl5 Tryd.underlying29 rfl h1.info ?_) | fail)
 refine (c2.at _).mono ?_
 rintro e w4 ⟨rfl, hb⟩
 replace rp0 := keep hb rp0
 replace rl5 := keep hb rl5
 replace hw := Below.after hw hb
 replace f4 := f4.below hb
 clear hb
 go_wp2_with (first | (refine wpList_store_row rfl 37 _ _ rfl (w4.heap.size) t2 rfl rfl 37 #[.int .u64 0, .int .u64 0, .int .u64 0, .int .u64 0, .int .u64 0, .int .u64 0, .int .u64 0, .int .u64 0, .int .u64 0, .int .u64 0, .int .u64 0, .int .u64 0, .int .u64 0, .int .u64 0, .int .u64 0, .int .u64 0, .int .u64 0, .int .u64 0, .int .u64 0, .int .u64 0, .int .u64 0, .int .u64 0, .int .u64 0, .int .u64 0, .int .u64 0, .int .u64 0, .int .u64 0, .int .u64 0, .int .u64 0, .int .u64 0, .int .u64 0, .int .u64 0, .int .u64 0, .int .u64 0, .int .u64 0, .int .u64 0, .int .u64 0, .int .u64 0, .int .u64 0, .int .u64 0, .int .u64 0, .int .u64 0, .int .u64 0, .int .u64 0, .int .u64 0, .int .u64 0, .int .u64 0, .int .u64 0] (hp1_0 w4 _) h2.info (h2.size).symm h2.one ?_; rw [setRow_alloc_new _ _ _ _ _ _ (by simp)]; refine wpList_stay ?_) | fail)
 unfold WpStay
 try simp only [Act.put]
 have rl7 : (w4.alloc (.cells t2 37)).heap[w4.heap.size]? = some (.cells t2 37 (0, 0)) := hp1_0 w4 _
 have hb : Below w4.heap.size w4 (w4.alloc (.cells t2 37)) := ((Below.refl _ _).alloc (Nat.le_refl _) _)
 generalize (w4.alloc (.cells t2 37)) = wb at *
 have ygb_0 := lt_of_row rp0
 have ygb_1 := lt_of_row rl5
 have ygb := hw.size
 have zgb := f4.sz
 replace rp0 := keep hb rp0
 replace rl5 := keep hb rl5
 replace hw := Below.after hw hb
 replace f4 := f4.below hb
 clear hb
 generalize w4.heap.size = gb at *
 clear w4
 go_wp2_with (first | (refine wpList_load_want rfl 23 _ rfl (w.heap.size) rfl 23 k (0, 0) _ rp0 Tryd.underlying23 rfl hk.info ?_) | (refine wpList_load_want rfl 29 _ rfl (ga) rfl 29 t1 (0, 0) _ rl5 Tryd.underlying29 rfl h1.info ?_) | (refine wpList_load_want rfl 37 _ rfl (gb) rfl 37 t2 (0, 0) _ rl7 Tryd.underlying37 rfl h2.info ?_) | fail)
 refine (c3.at f4.1).mono ?_
 rintro e w6 ⟨rfl, hb⟩
 replace rp0 := keep hb rp0
 replace rl5 := keep hb rl5
 replace rl7 := keep hb rl7
 replace hw := Below.after hw hb
 replace f4 := f4.below hb
 clear hb
 go_wp2_with (first | (refine wpList_store_row rfl 29 _ _ rfl (w6.heap.size) t3 rfl rfl 29 #[.int .u64 0, .int .u64 0, .int .u64 0, .int .u64 0, .int .u64 0, .int .u64 0, .int .u64 0, .int .u64 0, .int .u64 0, .int .u64 0, .int .u64 0, .int .u64 0, .int .u64 0, .int .u64 0, .int .u64 0, .int .u64 0, .int .u64 0, .int .u64 0, .int .u64 0, .int .u64 0] (hp1_0 w6 _) h3.info (h3.size).symm h3.one ?_; rw [setRow_alloc_new _ _ _ _ _ _ (by simp)]; refine wpList_stay ?_) | fail)
 unfold WpStay
 try simp only [Act.put]
 have rl9 : (w6.alloc (.cells t3 29)).heap[w6.heap.size]? = some (.cells t3 29 (0, 0)) := hp1_0 w6 _
 have hb : Below w6.heap.size w6 (w6.alloc (.cells t3 29)) := ((Below.refl _ _).alloc (Nat.le_refl _) _)
 generalize (w6.alloc (.cells t3 29)) = wc_ at *
 have ygc_0 := lt_of_row rp0
 have ygc_1 := lt_of_row rl5
 have ygc_2 := lt_of_row rl7
 have ygc := hw.size
 have zgc := f4.sz
 replace rp0 := keep hb rp0
 replace rl5 := keep hb rl5
 replace rl7 := keep hb rl7
 replace hw := Below.after hw hb
 replace f4 := f4.below hb
 clear hb
 generalize w6.heap.size = gc at *
 clear w6
 go_wp2_with (first | (refine wpList_load_want rfl 23 _ rfl (w.heap.size) rfl 23 k (0, 0) _ rp0 Tryd.underlying23 rfl hk.info ?_) | (refine wpList_load_want rfl 29 _ rfl (ga) rfl 29 t1 (0, 0) _ rl5 Tryd.underlying29 rfl h1.info ?_) | (refine wpList_load_want rfl 37 _ rfl (gb) rfl 37 t2 (0, 0) _ rl7 Tryd.underlying37 rfl h2.info ?_) | (refine wpList_load_want rfl 29 _ rfl (gc) rfl 29 t3 (0, 0) _ rl9 Tryd.underlying29 rfl h3.info ?_) | fail)
 refine (c4.at _).mono ?_
 rintro e w8 ⟨rfl, hb⟩
 replace rp0 := keep hb rp0
 replace rl5 := keep hb rl5
 replace rl7 := keep hb rl7
 replace rl9 := keep hb rl9
 replace hw := Below.after hw hb
 replace f4 := f4.below hb
 clear hb
 go_wp2_with (first | (refine wpList_store_row rfl 37 _ _ rfl (w8.heap.size) t4 rfl rfl 37 #[.int .u64 0, .int .u64 0, .int .u64 0, .int .u64 0, .int .u64 0, .int .u64 0, .int .u64 0, .int .u64 0, .int .u64 0, .int .u64 0, .int .u64 0, .int .u64 0, .int .u64 0, .int .u64 0, .int .u64 0, .int .u64 0, .int .u64 0, .int .u64 0, .int .u64 0, .int .u64 0, .int .u64 0, .int .u64 0, .int .u64 0, .int .u64 0, .int .u64 0, .int .u64 0, .int .u64 0, .int .u64 0, .int .u64 0, .int .u64 0, .int .u64 0, .int .u64 0, .int .u64 0, .int .u64 0, .int .u64 0, .int .u64 0, .int .u64 0, .int .u64 0, .int .u64 0, .int .u64 0, .int .u64 0, .int .u64 0, .int .u64 0, .int .u64 0, .int .u64 0, .int .u64 0, .int .u64 0, .int .u64 0] (hp1_0 w8 _) h4.info (h4.size).symm h4.one ?_; rw [setRow_alloc_new _ _ _ _ _ _ (by simp)]; refine wpList_stay ?_) | fail)
 unfold WpStay
 try simp only [Act.put]
 have rl11 : (w8.alloc (.cells t4 37)).heap[w8.heap.size]? = some (.cells t4 37 (0, 0)) := hp1_0 w8 _
 have hb : Below w8.heap.size w8 (w8.alloc (.cells t4 37)) := ((Below.refl _ _).alloc (Nat.le_refl _) _)
 generalize (w8.alloc (.cells t4 37)) = wd_ at *
 have ygd_0 := lt_of_row rp0
 have ygd_1 := lt_of_row rl5
 have ygd_2 := lt_of_row rl7
 have ygd_3 := lt_of_row rl9
 have ygd := hw.size
 have zgd := f4.sz
 replace rp0 := keep hb rp0
 replace rl5 := keep hb rl5
 replace rl7 := keep hb rl7
 replace rl9 := keep hb rl9
 replace hw := Below.after hw hb
 replace f4 := f4.below hb
 clear hb
 generalize w8.heap.size = gd at *
 clear w8
 go_wp2_with (fail)
 have Hrp0 := keepr rp0
 have Hrl5 := keepr rl5
 have Hrl7 := keepr rl7
 have Hrl9 := keepr rl9
 have Hrl11 := keepr rl11
 refine wp_region_quiet_below (by kernel_rfl) (by kernel_rfl) ?_
 go_big_quiet_step (fail)
 go_big_quiet_step (fail)
 go_big_quiet_step (fail)
 go_big_quiet_step (fail)
 go_big_quiet_step (fail)
 go_big_quiet_step (fail)
 go_big_quiet_step (fail)
 go_big_quiet_step (fail)
 go_big_quiet_step (fail)
 refine wpQuiet_load_want rfl 29 _ rfl (ga) rfl 29 t1 (0, 0) _ Hrl5.out Tryd.underlying29 rfl h1.info ?_
 simp only [Act.put, List.setIfInBounds_toArray, List.set_cons_succ, List.set_cons_zero]
 go_big_quiet_step (exact c10_.re)
 refine wpQuiet_load_want rfl 37 _ rfl (gb) rfl 37 t2 (0, 0) _ Hrl7.out Tryd.underlying37 rfl h2.info ?_
 simp only [Act.put, List.setIfInBounds_toArray, List.set_cons_succ, List.set_cons_zero]
 go_big_quiet_step (exact c11_.re)
 go_big_quiet_step (fail)
 go_big_quiet_step (fail)
 go_big_quiet_step (fail)
 refine wpQuiet_load_want rfl 29 _ rfl (gc) rfl 29 t3 (0, 0) _ Hrl9.out Tryd.underlying29 rfl h3.info ?_
 simp only [Act.put, List.setIfInBounds_toArray, List.set_cons_succ, List.set_cons_zero]
 go_big_quiet_step (exact c12_.re)
 refine wpQuiet_load_want rfl 37 _ rfl (gd) rfl 37 t4 (0, 0) _ Hrl11.out Tryd.underlying37 rfl h4.info ?_
 simp only [Act.put, List.setIfInBounds_toArray, List.set_cons_succ, List.set_cons_zero]
 go_big_quiet_step (exact c13_.re)
 go_big_quiet_step (fail)
 go_big_quiet_step (fail)
 go_big_quiet_step (fail)
 go_big_quiet_step (exact c5.re f4)
 go_big_quiet_step (exact c15_.re)
 go_big_quiet_step (exact c6.re)
 go_big_quiet_step (exact c17_.re)
 go_big_quiet_step (fail)
 go_big_quiet_step (fail)
 go_big_quiet_step (fail)
 refine wpQuiet_nil ?_
 rintro _ ⟨p, rfl⟩
 have hb := below_regrown wd_ p.d p.os
 generalize grow (redrawn wd_ p.d) p.os = w9 at *
 replace rp0 := keep hb rp0
 replace rl5 := keep hb rl5
 replace rl7 := keep hb rl7
 replace rl9 := keep hb rl9
 replace rl11 := keep hb rl11
 replace hw := Below.after hw hb
 replace f4 := f4.below hb
 clear hb
 clear Hrp0 Hrl5 Hrl7 Hrl9 Hrl11
 go_wp2
 go_ret
 exact ⟨rfl, hw⟩
theorem parses_any {k : Array Value} {N : Int} (hk : KeyOf k N) (odd : Bool) (w : World) (hF : Edw w) : Calls Tryd.prog 3 #[.agg k, .bool odd] w fun e w' => e = .returned (.bool true) ∧ Below w.heap.size w w' := by
 obtain ⟨t1, h1, c1⟩ := a_Parse hk
 obtain ⟨t2, h2, c2⟩ := r_Parse19 hk
 obtain ⟨t3, h3, c3⟩ := a_Lift hk odd
 obtain ⟨t4, h4, c4⟩ := r_Lift19 hk odd
 obtain ⟨t5, h5, c5⟩ := a_Base
 obtain ⟨t6, h6, c6⟩ := r_Base19
 exact parses_aux hk h1 h2 h3 h4 h5 h6 c1 c2 c3 c4 c5 c6 w hF
end Go.Proofs.YtgfhoabgbgddbaaDoor

