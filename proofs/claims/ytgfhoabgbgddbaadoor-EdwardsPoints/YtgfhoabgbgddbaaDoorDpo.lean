import Derived.Test.YtgfhoabgbgddbaaDoorProg
import Derived.WalkKit
import Derived.WalkSpells
import Derived.WalkLawsBesides
import Derived.Lib.QuietBelow
import Derived.BigQuiet
import Derived.Deep.Cut
import Derived.Deep.CutRange
import Derived.Test.YtgfhoabgbgddbaaDoorKa
import Derived.Test.YtgfhoabgbgddbaaDoorDwg
namespace Go.Proofs.YtgfhoabgbgddbaaDoor
set_option maxRecDepth 100000
open Go.RowKit Go.Sort
attribute [local go_sem] setCell_drewN alloc_drewN


theorem q_points (y : Int) : ((y * y - 1) * iv (-121665 * iv 121666 * (y * y) + 1)) % prm = qy y % prm := by
  rw [← zp_sub]
  refine qy_is zp_one (zp_lin1 0 zp_zero (by grind)) _ ?_
  have h1 := ec1_eq
  have h2 := iv_mul n121666
  generalize iv 121666 = z at *
  generalize ec1 = c at *
  exact zp_lin2 (y * y * z) (-(c * (y * y))) h1 h2 (by grind)
theorem key_byte {N : Int} (h : KeyOf (kb N) N) : byt N 31 = N / 452312848583266388373324160190187140051835877600158453279131187530910662656 := (key_top h).1

set_option maxRecDepth 100000 in
set_option maxHeartbeats 8000000 in
theorem points_aux {N M b7 E : Int} {t : Array Value} {P : E1} {odd O Z low : Bool} (hN : KeyOf (kb N) N) (hM : KeyOf (kb M) M) (_hMp : KeyOf (kb (M % prm)) (M % prm)) (eM : Hid ((kb N).setIfInBounds 31 (.int .u8 b7) = kb M)) (eN : Hid ((byt N 31).tmod 128 = b7)) (hodd : decide (128 ≤ byt N 31) = odd) (hO : rok (qy M) = O) (hZ : decide (rval (qy M) % prm = 0) = Z)
    (heq : ∀ W, (Op.equalIn 10000 23 (.agg (kb (M % prm))) (.agg (kb M))).run Tryd.prog W = .ok low W) (hcase : (O = false ∧ E = 190 ∧ P = ze) ∨ (O = true ∧ low = false ∧ E = 190 ∧ P = ze) ∨ (O = true ∧ low = true ∧ Z = false ∧ E = 0 ∧ True ∧ ∀ W, (Op.equalIn 10000 23 (.agg (kb (pb P))) (.agg (kb N))).run Tryd.prog W = .ok true W) ∨ (O = true ∧ low = true ∧ Z = true ∧ odd = false ∧ E = 0 ∧ True ∧ ∀ W, (Op.equalIn 10000 23 (.agg (kb (pb P))) (.agg (kb N))).run Tryd.prog W = .ok true W) ∨ (O = true ∧ low = true ∧ Z = true ∧ odd = true ∧ E = 190 ∧ P = ze))
    (ht : PtO t P) (cP : Gives5 12 #[.agg (kb N)] (.tuple #[.agg t, .int .i64 E])) {yr : Array Value} (hy : NumOf yr M) (cF : Gives 46 #[.agg (kb M)] (.agg yr)) (cB : Gives 55 #[.agg yr] (.agg (kb (M % prm)))) (w : World) (hF : Edw w) : Calls Tryd.prog 7 #[.agg (kb N)] w fun e w' => e = .returned (.bool true) ∧ Below w.heap.size w w' := by
  have c1 := a_lives2
  obtain ⟨x7, h7, c7⟩ := a_small 121665 (by decide) (by decide)
  obtain ⟨x9, h9, c9⟩ := a_neg h7
  obtain ⟨x11, h11, c11⟩ := a_small 121666 (by decide) (by decide)
  obtain ⟨x13, h13, c13⟩ := a_inv h11
  obtain ⟨x15, h15, c15⟩ := a_mul h9 h13
  obtain ⟨x17, h17, c17⟩ := a_square hy
  obtain ⟨x19, h19, c19⟩ := a_small 1 (by decide) (by decide)
  obtain ⟨x20, h20, c20⟩ := a_sub h17 h19
  obtain ⟨x21, h21, c21⟩ := a_mul h15 h17
  obtain ⟨x22, h22, c22⟩ := a_add h21 h19
  obtain ⟨x23, h23, c23⟩ := a_inv h22
  obtain ⟨x24, h24, c24⟩ := a_mul h20 h23
  obtain ⟨s, hsx, cR⟩ := a_root (h24.congr (q_points M))
  rw [hO] at cR
  have cZ := a_isZero hsx
  rw [hZ] at cZ
  clear hO hZ
  have rp0 : (w.alloc (.cells (kb N) 23)).heap[w.heap.size]? = some (.cells (kb N) 23 (0, 0)) := hp1_0 w _
  have hw : Below w.heap.size w (w.alloc (.cells (kb N) 23)) := ((Below.refl _ _).alloc (Nat.le_refl _) _)
  have hz0 := hF.sz
  have f4 : Edw (w.alloc (.cells (kb N) 23)) := (hF.alloc _)
  go_enter Tryd.func7, Tryd.ntmps7
  iterate 9 go_step
  generalize (w.alloc (.cells (kb N) 23)) = w0 at *
  go_wp2_with (first | (refine wpList_load_want rfl 23 _ rfl (w.heap.size) rfl 23 (kb N) (0, 0) _ rp0 Tryd.underlying23 rfl hN.info ?_) | fail)
  refine (c1.at f4).mono ?_
  rintro e w2 ⟨rfl, hb⟩
  replace rp0 := keep hb rp0
  replace hw := Below.after hw hb
  replace f4 := f4.below hb
  clear hb
  go_wp2_with (first | (refine wpList_load_want rfl 23 _ rfl (w.heap.size) rfl 23 (kb N) (0, 0) _ rp0 Tryd.underlying23 rfl hN.info ?_) | fail)
  refine (cP.at f4.1).mono ?_
  rintro e w4 ⟨rfl, hb⟩
  replace rp0 := keep hb rp0
  replace hw := Below.after hw hb
  replace f4 := f4.below hb
  clear hb
  go_wp2_with (first | (refine wpList_store_row rfl 29 _ _ rfl (w4.heap.size) t rfl rfl 29 #[.int .u64 0, .int .u64 0, .int .u64 0, .int .u64 0, .int .u64 0, .int .u64 0, .int .u64 0, .int .u64 0, .int .u64 0, .int .u64 0, .int .u64 0, .int .u64 0, .int .u64 0, .int .u64 0, .int .u64 0, .int .u64 0, .int .u64 0, .int .u64 0, .int .u64 0, .int .u64 0] (hp1_0 w4 _) ht.info (ht.size).symm ht.one ?_; rw [setRow_alloc_new _ _ _ _ _ _ (by simp)]; refine wpList_stay ?_) | fail)
  unfold WpStay
  try simp only [Act.put]
  have rl3 : (w4.alloc (.cells t 29)).heap[w4.heap.size]? = some (.cells t 29 (0, 0)) := hp1_0 w4 _
  have hb : Below w4.heap.size w4 (w4.alloc (.cells t 29)) := ((Below.refl _ _).alloc (Nat.le_refl _) _)
  generalize (w4.alloc (.cells t 29)) = wp at *
  have ygp_0 := lt_of_row rp0
  have ygp := hw.size
  have zgp := f4.sz
  replace rp0 := keep hb rp0
  replace hw := Below.after hw hb
  replace f4 := f4.below hb
  clear hb
  generalize w4.heap.size = gp at *
  clear w4
  have c31 : wp.cell? ⟨w.heap.size, 31, none⟩ = some (.int .u8 (byt N 31)) := cell_of_row wp (w.heap.size) 31 _ _ _ rp0
  go_wp2_with (first | (refine wpList_load_cell31 rfl 5 _ rfl (w.heap.size) 31 rfl _ c31 Tryd.underlying5 ?_) | (refine wpList_load_want rfl 23 _ rfl (w.heap.size) rfl 23 (kb N) (0, 0) _ rp0 Tryd.underlying23 rfl (kb_info _) ?_) | (refine wpList_store_row rfl 23 _ _ rfl (wp.heap.size) (kb N) rfl rfl 23 #[.int .u8 0, .int .u8 0, .int .u8 0, .int .u8 0, .int .u8 0, .int .u8 0, .int .u8 0, .int .u8 0, .int .u8 0, .int .u8 0, .int .u8 0, .int .u8 0, .int .u8 0, .int .u8 0, .int .u8 0, .int .u8 0, .int .u8 0, .int .u8 0, .int .u8 0, .int .u8 0, .int .u8 0, .int .u8 0, .int .u8 0, .int .u8 0, .int .u8 0, .int .u8 0, .int .u8 0, .int .u8 0, .int .u8 0, .int .u8 0, .int .u8 0, .int .u8 0] (hp1_0 wp _) (kb_info _) rfl (kb_one _) ?_; rw [setRow_alloc_new _ _ _ _ _ _ (by simp)]; refine wpList_stay ?_) | fail)
  unfold WpStay
  try simp only [Act.put]
  clear c31
  have rl6 : (wp.alloc (.cells (kb N) 23)).heap[wp.heap.size]? = some (.cells (kb N) 23 (0, 0)) := hp1_0 wp _
  have hb : Below wp.heap.size wp (wp.alloc (.cells (kb N) 23)) := ((Below.refl _ _).alloc (Nat.le_refl _) _)
  generalize (wp.alloc (.cells (kb N) 23)) = wq at *
  have yq_0 := lt_of_row rp0
  have yq_1 := lt_of_row rl3
  have yq := hw.size
  have zq := f4.sz
  replace rp0 := keep hb rp0
  replace rl3 := keep hb rl3
  replace hw := Below.after hw hb
  replace f4 := f4.below hb
  clear hb
  generalize wp.heap.size = gq at *
  clear wp
  have c31 : wq.cell? ⟨gq, 31, none⟩ = some (.int .u8 (byt N 31)) := cell_of_row wq gq 31 _ _ _ rl6
  go_wp2_with (first | (refine wpList_load_cell31 rfl 5 _ rfl gq 31 rfl _ c31 Tryd.underlying5 ?_) | (refine wpList_store_cell31 rfl 5 _ _ rfl gq 31 rfl (.int .u8 b7) (by first | rfl | (rw [← eN.out]; rfl)) 23 (kb N) rl6 (by rw [kb_size]; decide) (by kernel_rfl) rfl ?_; rw [eM.out]; refine wpList_stay ?_) | fail)
  unfold WpStay
  clear c31
  replace rp0 := (setRow_other wq (gq) (w.heap.size) (kb M) (by first | assumption | omega)).trans rp0
  replace rl3 := (setRow_other wq (gq) (gp) (kb M) (by first | assumption | omega)).trans rl3
  replace rl6 := setRow_heap wq (gq) _ (kb M) _ _ rl6
  replace hw := below_setRow hw (show w.heap.size ≤ gq by first | assumption | omega) (kb M)
  replace f4 := f4.setRow (show 4 < gq by first | assumption | omega) (kb M)
  generalize wq.setRow (gq) (kb M) = wz at *
  go_wp2_with (first | (refine wpList_load_want rfl 23 _ rfl (w.heap.size) rfl 23 (kb N) (0, 0) _ rp0 Tryd.underlying23 rfl hN.info ?_) | (refine wpList_load_want rfl 29 _ rfl (gp) rfl 29 t (0, 0) _ rl3 Tryd.underlying29 rfl ht.info ?_) | (refine wpList_load_want rfl 23 _ rfl (gq) rfl 23 (kb M) (0, 0) _ rl6 Tryd.underlying23 rfl hM.info ?_) | fail)
  refine (cF.at _).mono ?_
  rintro e w6 ⟨rfl, hb⟩
  replace rp0 := keep hb rp0
  replace rl3 := keep hb rl3
  replace rl6 := keep hb rl6
  replace hw := Below.after hw hb
  replace f4 := f4.below hb
  clear hb
  go_wp2_with (first | (refine wpList_store_row rfl 27 _ _ rfl (w6.heap.size) yr rfl rfl 27 #[.int .u64 0, .int .u64 0, .int .u64 0, .int .u64 0, .int .u64 0] (hp1_0 w6 _) hy.info (hy.fits rfl) hy.one ?_; rw [setRow_alloc_new _ _ _ _ _ _ (by simp)]; refine wpList_stay ?_) | fail)
  unfold WpStay
  try simp only [Act.put]
  have rl7 : (w6.alloc (.cells yr 27)).heap[w6.heap.size]? = some (.cells yr 27 (0, 0)) := hp1_0 w6 _
  have hb : Below w6.heap.size w6 (w6.alloc (.cells yr 27)) := ((Below.refl _ _).alloc (Nat.le_refl _) _)
  generalize (w6.alloc (.cells yr 27)) = wy at *
  have ygy_0 := lt_of_row rp0
  have ygy_1 := lt_of_row rl3
  have ygy_2 := lt_of_row rl6
  have ygy := hw.size
  have zgy := f4.sz
  replace rp0 := keep hb rp0
  replace rl3 := keep hb rl3
  replace rl6 := keep hb rl6
  replace hw := Below.after hw hb
  replace f4 := f4.below hb
  clear hb
  generalize w6.heap.size = gy at *
  clear w6
  go_wp2_with (first | (refine wpList_load_want rfl 23 _ rfl (w.heap.size) rfl 23 (kb N) (0, 0) _ rp0 Tryd.underlying23 rfl hN.info ?_) | (refine wpList_load_want rfl 29 _ rfl (gp) rfl 29 t (0, 0) _ rl3 Tryd.underlying29 rfl ht.info ?_) | (refine wpList_load_want rfl 23 _ rfl (gq) rfl 23 (kb M) (0, 0) _ rl6 Tryd.underlying23 rfl hM.info ?_) | (refine wpList_load_want rfl 27 _ rfl (gy) rfl 27 yr (0, 0) _ rl7 Tryd.underlying27 rfl hy.info ?_) | fail)
  refine (c7.at _).mono ?_
  rintro e w8 ⟨rfl, hb⟩
  replace rp0 := keep hb rp0
  replace rl3 := keep hb rl3
  replace rl6 := keep hb rl6
  replace rl7 := keep hb rl7
  replace hw := Below.after hw hb
  replace f4 := f4.below hb
  clear hb
  go_wp2_with (first | (refine wpList_load_want rfl 23 _ rfl (w.heap.size) rfl 23 (kb N) (0, 0) _ rp0 Tryd.underlying23 rfl hN.info ?_) | (refine wpList_load_want rfl 29 _ rfl (gp) rfl 29 t (0, 0) _ rl3 Tryd.underlying29 rfl ht.info ?_) | (refine wpList_load_want rfl 23 _ rfl (gq) rfl 23 (kb M) (0, 0) _ rl6 Tryd.underlying23 rfl hM.info ?_) | (refine wpList_load_want rfl 27 _ rfl (gy) rfl 27 yr (0, 0) _ rl7 Tryd.underlying27 rfl hy.info ?_) | fail)
  refine (c9.at f4.1.1).mono ?_
  rintro e w10 ⟨rfl, hb⟩
  replace rp0 := keep hb rp0
  replace rl3 := keep hb rl3
  replace rl6 := keep hb rl6
  replace rl7 := keep hb rl7
  replace hw := Below.after hw hb
  replace f4 := f4.below hb
  clear hb
  go_wp2_with (first | (refine wpList_load_want rfl 23 _ rfl (w.heap.size) rfl 23 (kb N) (0, 0) _ rp0 Tryd.underlying23 rfl hN.info ?_) | (refine wpList_load_want rfl 29 _ rfl (gp) rfl 29 t (0, 0) _ rl3 Tryd.underlying29 rfl ht.info ?_) | (refine wpList_load_want rfl 23 _ rfl (gq) rfl 23 (kb M) (0, 0) _ rl6 Tryd.underlying23 rfl hM.info ?_) | (refine wpList_load_want rfl 27 _ rfl (gy) rfl 27 yr (0, 0) _ rl7 Tryd.underlying27 rfl hy.info ?_) | fail)
  refine (c11.at _).mono ?_
  rintro e w12 ⟨rfl, hb⟩
  replace rp0 := keep hb rp0
  replace rl3 := keep hb rl3
  replace rl6 := keep hb rl6
  replace rl7 := keep hb rl7
  replace hw := Below.after hw hb
  replace f4 := f4.below hb
  clear hb
  go_wp2_with (first | (refine wpList_load_want rfl 23 _ rfl (w.heap.size) rfl 23 (kb N) (0, 0) _ rp0 Tryd.underlying23 rfl hN.info ?_) | (refine wpList_load_want rfl 29 _ rfl (gp) rfl 29 t (0, 0) _ rl3 Tryd.underlying29 rfl ht.info ?_) | (refine wpList_load_want rfl 23 _ rfl (gq) rfl 23 (kb M) (0, 0) _ rl6 Tryd.underlying23 rfl hM.info ?_) | (refine wpList_load_want rfl 27 _ rfl (gy) rfl 27 yr (0, 0) _ rl7 Tryd.underlying27 rfl hy.info ?_) | fail)
  refine (c13.at _).mono ?_
  rintro e w14 ⟨rfl, hb⟩
  replace rp0 := keep hb rp0
  replace rl3 := keep hb rl3
  replace rl6 := keep hb rl6
  replace rl7 := keep hb rl7
  replace hw := Below.after hw hb
  replace f4 := f4.below hb
  clear hb
  go_wp2_with (first | (refine wpList_load_want rfl 23 _ rfl (w.heap.size) rfl 23 (kb N) (0, 0) _ rp0 Tryd.underlying23 rfl hN.info ?_) | (refine wpList_load_want rfl 29 _ rfl (gp) rfl 29 t (0, 0) _ rl3 Tryd.underlying29 rfl ht.info ?_) | (refine wpList_load_want rfl 23 _ rfl (gq) rfl 23 (kb M) (0, 0) _ rl6 Tryd.underlying23 rfl hM.info ?_) | (refine wpList_load_want rfl 27 _ rfl (gy) rfl 27 yr (0, 0) _ rl7 Tryd.underlying27 rfl hy.info ?_) | fail)
  refine (c15.at _).mono ?_
  rintro e w16 ⟨rfl, hb⟩
  replace rp0 := keep hb rp0
  replace rl3 := keep hb rl3
  replace rl6 := keep hb rl6
  replace rl7 := keep hb rl7
  replace hw := Below.after hw hb
  replace f4 := f4.below hb
  clear hb
  go_wp2_with (first | (refine wpList_store_row rfl 27 _ _ rfl (w16.heap.size) x15 rfl rfl 27 #[.int .u64 0, .int .u64 0, .int .u64 0, .int .u64 0, .int .u64 0] (hp1_0 w16 _) h15.info (h15.fits rfl) h15.one ?_; rw [setRow_alloc_new _ _ _ _ _ _ (by simp)]; refine wpList_stay ?_) | fail)
  unfold WpStay
  try simp only [Act.put]
  have rl8 : (w16.alloc (.cells x15 27)).heap[w16.heap.size]? = some (.cells x15 27 (0, 0)) := hp1_0 w16 _
  have hb : Below w16.heap.size w16 (w16.alloc (.cells x15 27)) := ((Below.refl _ _).alloc (Nat.le_refl _) _)
  generalize (w16.alloc (.cells x15 27)) = wd at *
  have ygd_0 := lt_of_row rp0
  have ygd_1 := lt_of_row rl3
  have ygd_2 := lt_of_row rl6
  have ygd_3 := lt_of_row rl7
  have ygd := hw.size
  have zgd := f4.sz
  replace rp0 := keep hb rp0
  replace rl3 := keep hb rl3
  replace rl6 := keep hb rl6
  replace rl7 := keep hb rl7
  replace hw := Below.after hw hb
  replace f4 := f4.below hb
  clear hb
  generalize w16.heap.size = gd at *
  clear w16
  go_wp2_with (first | (refine wpList_load_want rfl 23 _ rfl (w.heap.size) rfl 23 (kb N) (0, 0) _ rp0 Tryd.underlying23 rfl hN.info ?_) | (refine wpList_load_want rfl 29 _ rfl (gp) rfl 29 t (0, 0) _ rl3 Tryd.underlying29 rfl ht.info ?_) | (refine wpList_load_want rfl 23 _ rfl (gq) rfl 23 (kb M) (0, 0) _ rl6 Tryd.underlying23 rfl hM.info ?_) | (refine wpList_load_want rfl 27 _ rfl (gy) rfl 27 yr (0, 0) _ rl7 Tryd.underlying27 rfl hy.info ?_) | (refine wpList_load_want rfl 27 _ rfl (gd) rfl 27 x15 (0, 0) _ rl8 Tryd.underlying27 rfl h15.info ?_) | fail)
  refine (c17.at _).mono ?_
  rintro e w18 ⟨rfl, hb⟩
  replace rp0 := keep hb rp0
  replace rl3 := keep hb rl3
  replace rl6 := keep hb rl6
  replace rl7 := keep hb rl7
  replace rl8 := keep hb rl8
  replace hw := Below.after hw hb
  replace f4 := f4.below hb
  clear hb
  go_wp2_with (first | (refine wpList_store_row rfl 27 _ _ rfl (w18.heap.size) x17 rfl rfl 27 #[.int .u64 0, .int .u64 0, .int .u64 0, .int .u64 0, .int .u64 0] (hp1_0 w18 _) h17.info (h17.fits rfl) h17.one ?_; rw [setRow_alloc_new _ _ _ _ _ _ (by simp)]; refine wpList_stay ?_) | fail)
  unfold WpStay
  try simp only [Act.put]
  have rl9 : (w18.alloc (.cells x17 27)).heap[w18.heap.size]? = some (.cells x17 27 (0, 0)) := hp1_0 w18 _
  have hb : Below w18.heap.size w18 (w18.alloc (.cells x17 27)) := ((Below.refl _ _).alloc (Nat.le_refl _) _)
  generalize (w18.alloc (.cells x17 27)) = ws at *
  have ygs_0 := lt_of_row rp0
  have ygs_1 := lt_of_row rl3
  have ygs_2 := lt_of_row rl6
  have ygs_3 := lt_of_row rl7
  have ygs_4 := lt_of_row rl8
  have ygs := hw.size
  have zgs := f4.sz
  replace rp0 := keep hb rp0
  replace rl3 := keep hb rl3
  replace rl6 := keep hb rl6
  replace rl7 := keep hb rl7
  replace rl8 := keep hb rl8
  replace hw := Below.after hw hb
  replace f4 := f4.below hb
  clear hb
  generalize w18.heap.size = gs at *
  clear w18
  go_wp2_with (fail)
  go_cut [10, 11] from 12 to 84 (fun u10 u11 wx => ∃ gx, u10 = .pointer (some ⟨gx, 0, none⟩) ∧ u11 = .bool O ∧ w.heap.size ≤ gx ∧ 4 < gx ∧ w.heap.size < gx ∧ gp < gx ∧ gq < gx ∧ gy < gx ∧ gd < gx ∧ gs < gx ∧ wx.heap[w.heap.size]? = some (.cells (kb N) 23 (0, 0)) ∧ wx.heap[gp]? = some (.cells t 29 (0, 0)) ∧ wx.heap[gq]? = some (.cells (kb M) 23 (0, 0)) ∧ wx.heap[gy]? = some (.cells yr 27 (0, 0)) ∧ wx.heap[gd]? = some (.cells x15 27 (0, 0)) ∧ wx.heap[gs]? = some (.cells x17 27 (0, 0)) ∧ wx.heap[gx]? = some (.cells s 27 (0, 0)) ∧ Below w.heap.size w wx ∧ Edw wx)
  case first =>
    have hbd : Below ws.heap.size ws ws.drew := below_drN (Below.refl _ _) 1
    replace rp0 := keep hbd rp0
    replace rl3 := keep hbd rl3
    replace rl6 := keep hbd rl6
    replace rl7 := keep hbd rl7
    replace rl8 := keep hbd rl8
    replace rl9 := keep hbd rl9
    replace hw := Below.after hw hbd
    replace f4 := f4.below hbd
    clear hbd
    refine wp_region_noPanic ?_
    refine wp_region_held (S := fun W_ => W_.heap[gd]? = some (.cells x15 27 (0, 0)) ∧ W_.heap[gs]? = some (.cells x17 27 (0, 0))) (by kernel_rfl) ?_
    change wpAnyH _ _ _ _ _ _ _ _ (World.drew _)
    generalize ws.drew = wd1 at *
    refine wpAnyH_take (i := 0) (v := .agg x17) rfl (by kernel_rfl) (by kernel_rfl) (by kernel_rfl) (fun _ _ _ h => h) (Or.inl ⟨by rfl, ?y2⟩) (⟨rl8, rl9⟩) ?r2
    case y2 =>
      intro w_ hS_
      simp only [List.getElem_toArray, List.getElem_cons_zero]
      exact e_load_part 27 _ (by rfl) (gs) 0 (by rfl) 27 x17 (0, 0) x17 _ (hS_.2) (all_rowe _) Tryd.underlying27 rfl h17.info
    simp only [Act.put, List.getElem_toArray, List.getElem_cons_zero, List.setIfInBounds_toArray, List.set_cons_succ, List.set_cons_zero]
    refine wpAnyH_take (i := 3) (v := .agg x15) rfl (by kernel_rfl) (by kernel_rfl) (by kernel_rfl) (fun _ _ _ h => h) (Or.inl ⟨by rfl, ?y3⟩) (⟨rl8, rl9⟩) ?r3
    case y3 =>
      intro w_ hS_
      simp only [List.getElem_toArray, List.getElem_cons_succ, List.getElem_cons_zero]
      exact e_load_part 27 _ (by rfl) (gd) 0 (by rfl) 27 x15 (0, 0) x15 _ (hS_.1) (all_rowe _) Tryd.underlying27 rfl h15.info
    simp only [Act.put, List.getElem_toArray, List.getElem_cons_succ, List.getElem_cons_zero, List.setIfInBounds_toArray, List.set_cons_succ, List.set_cons_zero]
    refine wpAnyH_take (i := 4) (v := .agg x17) rfl (by kernel_rfl) (by kernel_rfl) (by kernel_rfl) (fun _ _ _ h => h) (Or.inl ⟨by rfl, ?y4⟩) (⟨rl8, rl9⟩) ?r4
    case y4 =>
      intro w_ hS_
      simp only [List.getElem_toArray, List.getElem_cons_succ, List.getElem_cons_zero]
      exact e_load_part 27 _ (by rfl) (gs) 0 (by rfl) 27 x17 (0, 0) x17 _ (hS_.2) (all_rowe _) Tryd.underlying27 rfl h17.info
    simp only [Act.put, List.getElem_toArray, List.getElem_cons_succ, List.getElem_cons_zero, List.setIfInBounds_toArray, List.set_cons_succ, List.set_cons_zero]
    refine eH_two (j := 1) (k := 14) (fuel := 13) (by kernel_rfl) rfl rfl (by kernel_rfl) (by kernel_rfl) (fun K_ hK_ => ?_) (fun K_ hK_ => ?_)
    · skip
      refine wp_call_ex (f := 47) (by kernel_rfl) (ex1e (c19.at _)) (fun v_ wq5 hX_ => ?_)
      obtain ⟨rfl, hb_⟩ := hX_
      replace rp0 := keep hb_ rp0
      replace rl3 := keep hb_ rl3
      replace rl6 := keep hb_ rl6
      replace rl7 := keep hb_ rl7
      replace rl8 := keep hb_ rl8
      replace rl9 := keep hb_ rl9
      replace hw := Below.after hw hb_
      replace f4 := f4.below hb_
      clear hb_
      refine hK_ _ _ (⟨rl8, rl9⟩) ?_
      simp only [Act.put, List.getElem_toArray, List.getElem_cons_succ, List.getElem_cons_zero, List.setIfInBounds_toArray, List.set_cons_succ, List.set_cons_zero]
      clear hK_
      refine eH_two (j := 2) (k := 14) (fuel := 12) (by kernel_rfl) rfl rfl (by kernel_rfl) (by kernel_rfl) (fun K_ hK_ => ?_) (fun K_ hK_ => ?_)
      · skip
        refine wp_call_ex (f := 52) (by kernel_rfl) (ex1e (c20.at f4.1.1)) (fun v_ wq6 hX_ => ?_)
        obtain ⟨rfl, hb_⟩ := hX_
        replace rp0 := keep hb_ rp0
        replace rl3 := keep hb_ rl3
        replace rl6 := keep hb_ rl6
        replace rl7 := keep hb_ rl7
        replace rl8 := keep hb_ rl8
        replace rl9 := keep hb_ rl9
        replace hw := Below.after hw hb_
        replace f4 := f4.below hb_
        clear hb_
        refine hK_ _ _ (⟨rl8, rl9⟩) ?_
        simp only [Act.put, List.getElem_toArray, List.getElem_cons_succ, List.getElem_cons_zero, List.setIfInBounds_toArray, List.set_cons_succ, List.set_cons_zero]
        clear hK_
        refine eH_two (j := 5) (k := 14) (fuel := 11) (by kernel_rfl) rfl rfl (by kernel_rfl) (by kernel_rfl) (fun K_ hK_ => ?_) (fun K_ hK_ => ?_)
        · skip
          refine wp_call_ex (f := 49) (by kernel_rfl) (ex1e (c21.at _)) (fun v_ wq7 hX_ => ?_)
          obtain ⟨rfl, hb_⟩ := hX_
          replace rp0 := keep hb_ rp0
          replace rl3 := keep hb_ rl3
          replace rl6 := keep hb_ rl6
          replace rl7 := keep hb_ rl7
          replace rl8 := keep hb_ rl8
          replace rl9 := keep hb_ rl9
          replace hw := Below.after hw hb_
          replace f4 := f4.below hb_
          clear hb_
          refine hK_ _ _ (⟨rl8, rl9⟩) ?_
          simp only [Act.put, List.getElem_toArray, List.getElem_cons_succ, List.getElem_cons_zero, List.setIfInBounds_toArray, List.set_cons_succ, List.set_cons_zero]
          clear hK_
          refine eH_two (j := 6) (k := 14) (fuel := 10) (by kernel_rfl) rfl rfl (by kernel_rfl) (by kernel_rfl) (fun K_ hK_ => ?_) (fun K_ hK_ => ?_)
          · skip
            refine wp_call_ex (f := 47) (by kernel_rfl) (ex1e (c19.at _)) (fun v_ wq8 hX_ => ?_)
            obtain ⟨rfl, hb_⟩ := hX_
            replace rp0 := keep hb_ rp0
            replace rl3 := keep hb_ rl3
            replace rl6 := keep hb_ rl6
            replace rl7 := keep hb_ rl7
            replace rl8 := keep hb_ rl8
            replace rl9 := keep hb_ rl9
            replace hw := Below.after hw hb_
            replace f4 := f4.below hb_
            clear hb_
            refine hK_ _ _ (⟨rl8, rl9⟩) ?_
            simp only [Act.put, List.getElem_toArray, List.getElem_cons_succ, List.getElem_cons_zero, List.setIfInBounds_toArray, List.set_cons_succ, List.set_cons_zero]
            clear hK_
            refine eH_two (j := 7) (k := 14) (fuel := 9) (by kernel_rfl) rfl rfl (by kernel_rfl) (by kernel_rfl) (fun K_ hK_ => ?_) (fun K_ hK_ => ?_)
            · skip
              refine wp_call_ex (f := 53) (by kernel_rfl) (ex1e (c22.at _)) (fun v_ wq9 hX_ => ?_)
              obtain ⟨rfl, hb_⟩ := hX_
              replace rp0 := keep hb_ rp0
              replace rl3 := keep hb_ rl3
              replace rl6 := keep hb_ rl6
              replace rl7 := keep hb_ rl7
              replace rl8 := keep hb_ rl8
              replace rl9 := keep hb_ rl9
              replace hw := Below.after hw hb_
              replace f4 := f4.below hb_
              clear hb_
              refine hK_ _ _ (⟨rl8, rl9⟩) ?_
              simp only [Act.put, List.getElem_toArray, List.getElem_cons_succ, List.getElem_cons_zero, List.setIfInBounds_toArray, List.set_cons_succ, List.set_cons_zero]
              clear hK_
              refine eH_two (j := 8) (k := 14) (fuel := 8) (by kernel_rfl) rfl rfl (by kernel_rfl) (by kernel_rfl) (fun K_ hK_ => ?_) (fun K_ hK_ => ?_)
              · skip
                refine wp_call_ex (f := 50) (by kernel_rfl) (ex1e (c23.at _)) (fun v_ wq10 hX_ => ?_)
                obtain ⟨rfl, hb_⟩ := hX_
                replace rp0 := keep hb_ rp0
                replace rl3 := keep hb_ rl3
                replace rl6 := keep hb_ rl6
                replace rl7 := keep hb_ rl7
                replace rl8 := keep hb_ rl8
                replace rl9 := keep hb_ rl9
                replace hw := Below.after hw hb_
                replace f4 := f4.below hb_
                clear hb_
                refine hK_ _ _ (⟨rl8, rl9⟩) ?_
                simp only [Act.put, List.getElem_toArray, List.getElem_cons_succ, List.getElem_cons_zero, List.setIfInBounds_toArray, List.set_cons_succ, List.set_cons_zero]
                clear hK_
                refine eH_two (j := 9) (k := 14) (fuel := 7) (by kernel_rfl) rfl rfl (by kernel_rfl) (by kernel_rfl) (fun K_ hK_ => ?_) (fun K_ hK_ => ?_)
                · skip
                  refine wp_call_ex (f := 49) (by kernel_rfl) (ex1e (c24.at _)) (fun v_ wq11 hX_ => ?_)
                  obtain ⟨rfl, hb_⟩ := hX_
                  replace rp0 := keep hb_ rp0
                  replace rl3 := keep hb_ rl3
                  replace rl6 := keep hb_ rl6
                  replace rl7 := keep hb_ rl7
                  replace rl8 := keep hb_ rl8
                  replace rl9 := keep hb_ rl9
                  replace hw := Below.after hw hb_
                  replace f4 := f4.below hb_
                  clear hb_
                  refine hK_ _ _ (⟨rl8, rl9⟩) ?_
                  simp only [Act.put, List.getElem_toArray, List.getElem_cons_succ, List.getElem_cons_zero, List.setIfInBounds_toArray, List.set_cons_succ, List.set_cons_zero]
                  clear hK_
                  refine eH_two (j := 10) (k := 14) (fuel := 6) (by kernel_rfl) rfl rfl (by kernel_rfl) (by kernel_rfl) (fun K_ hK_ => ?_) (fun K_ hK_ => ?_)
                  · skip
                    refine wp_call_ex (f := 54) (by kernel_rfl) (ex1e (cR.at f4.1)) (fun v_ wq12 hX_ => ?_)
                    obtain ⟨rfl, hb_⟩ := hX_
                    replace rp0 := keep hb_ rp0
                    replace rl3 := keep hb_ rl3
                    replace rl6 := keep hb_ rl6
                    replace rl7 := keep hb_ rl7
                    replace rl8 := keep hb_ rl8
                    replace rl9 := keep hb_ rl9
                    replace hw := Below.after hw hb_
                    replace f4 := f4.below hb_
                    clear hb_
                    refine hK_ _ _ (⟨rl8, rl9⟩) ?_
                    simp only [Act.put, List.getElem_toArray, List.getElem_cons_succ, List.getElem_cons_zero, List.setIfInBounds_toArray, List.set_cons_succ, List.set_cons_zero]
                    clear hK_
                    refine wpAnyH_take (i := 11) (v := ?v13) rfl (by kernel_rfl) (by kernel_rfl) (by kernel_rfl) (fun _ _ _ h => h) (Or.inl ⟨by rfl, ?y13⟩) (⟨rl8, rl9⟩) ?r13
                    case y13 =>
                      intro w_ hS_
                      go_simp
                      try with_reducible rfl
                    simp only [Act.put, List.getElem_toArray, List.getElem_cons_succ, List.getElem_cons_zero, List.setIfInBounds_toArray, List.set_cons_succ, List.set_cons_zero]
                    refine wpAnyH_take (i := 12) (v := ?v14) rfl (by kernel_rfl) (by kernel_rfl) (by kernel_rfl) (fun _ _ _ h => h) (Or.inl ⟨by rfl, ?y14⟩) (⟨rl8, rl9⟩) ?r14
                    case y14 =>
                      intro w_ hS_
                      go_simp
                      try with_reducible rfl
                    simp only [Act.put, List.getElem_toArray, List.getElem_cons_succ, List.getElem_cons_zero, List.setIfInBounds_toArray, List.set_cons_succ, List.set_cons_zero]
                    refine wpAnyH_take (i := 13) (v := ?v15) rfl (by kernel_rfl) (by kernel_rfl) (by kernel_rfl) (fun _ _ _ h => h) (Or.inl ⟨by rfl, ?y15⟩) (⟨rl8, rl9⟩) ?r15
                    case y15 =>
                      intro w_ hS_
                      go_simp
                      try with_reducible rfl
                    simp only [Act.put, List.getElem_toArray, List.getElem_cons_succ, List.getElem_cons_zero, List.setIfInBounds_toArray, List.set_cons_succ, List.set_cons_zero]
                    refine eH_one (k := 14) (fuel := 2) (by kernel_rfl) rfl (by kernel_rfl) (fun K_ hK_ => ?_)
                    refine e_world_op (.pointer (some ⟨wq12.heap.size, 0, none⟩)) (wq12.alloc (.cells #[.int .u64 0, .int .u64 0, .int .u64 0, .int .u64 0, .int .u64 0] 27)) (by kernel_rfl) ?_
                    have hb_ : Below wq12.heap.size wq12 (wq12.alloc (.cells #[.int .u64 0, .int .u64 0, .int .u64 0, .int .u64 0, .int .u64 0] 27)) := (Below.refl _ _).alloc (Nat.le_refl _) _
                    have sz_g16 := hw.size
                    have rg16 := hp1_0 wq12 (.cells #[.int .u64 0, .int .u64 0, .int .u64 0, .int .u64 0, .int .u64 0] 27)
                    have ltg16_0 := lt_of_row rp0
                    have ltg16_1 := lt_of_row rl3
                    have ltg16_2 := lt_of_row rl6
                    have ltg16_3 := lt_of_row rl7
                    have ltg16_4 := lt_of_row rl8
                    have ltg16_5 := lt_of_row rl9
                    have zg16 := f4.sz
                    replace rp0 := keep hb_ rp0
                    replace rl3 := keep hb_ rl3
                    replace rl6 := keep hb_ rl6
                    replace rl7 := keep hb_ rl7
                    replace rl8 := keep hb_ rl8
                    replace rl9 := keep hb_ rl9
                    replace hw := Below.after hw hb_
                    replace f4 := f4.below hb_
                    clear hb_
                    refine hK_ _ _ (⟨rl8, rl9⟩) ?_
                    simp only [Act.put, List.getElem_toArray, List.getElem_cons_succ, List.getElem_cons_zero, List.setIfInBounds_toArray, List.set_cons_succ, List.set_cons_zero]
                    clear hK_
                    generalize (wq12.alloc (.cells #[.int .u64 0, .int .u64 0, .int .u64 0, .int .u64 0, .int .u64 0] 27)) = wq16 at *
                    generalize wq12.heap.size = g16 at *
                    refine eH_one (k := 15) (fuel := 1) (by kernel_rfl) rfl (by kernel_rfl) (fun K_ hK_ => ?_)
                    refine wp_store_row 27 _ _ rfl (g16) s rfl rfl 27 _ rg16 hsx.info (num_zero.size.trans hsx.size.symm) hsx.one ?_
                    replace rp0 := (setRow_other wq16 (g16) (w.heap.size) s (by first | assumption | omega)).trans rp0
                    replace rl3 := (setRow_other wq16 (g16) (gp) s (by first | assumption | omega)).trans rl3
                    replace rl6 := (setRow_other wq16 (g16) (gq) s (by first | assumption | omega)).trans rl6
                    replace rl7 := (setRow_other wq16 (g16) (gy) s (by first | assumption | omega)).trans rl7
                    replace rl8 := (setRow_other wq16 (g16) (gd) s (by first | assumption | omega)).trans rl8
                    replace rl9 := (setRow_other wq16 (g16) (gs) s (by first | assumption | omega)).trans rl9
                    replace rg16 := setRow_heap wq16 (g16) _ s _ _ rg16
                    replace hw := below_setRow hw (show w.heap.size ≤ g16 by first | assumption | omega) s
                    replace f4 := f4.setRow (show 4 < g16 by first | assumption | omega) s
                    generalize wq16.setRow (g16) s = wq17 at *
                    refine hK_ _ _ (⟨rl8, rl9⟩) ?_
                    simp only [Act.put]
                    clear hK_
                    refine wpAnyH_take (i := 16) (v := ?v18) rfl (by kernel_rfl) (by kernel_rfl) (by kernel_rfl) (fun _ _ _ h => h) (Or.inl ⟨by rfl, ?y18⟩) (⟨rl8, rl9⟩) ?r18
                    case y18 =>
                      intro w_ hS_
                      go_simp
                      try with_reducible rfl
                    simp only [Act.put, List.getElem_toArray, List.getElem_cons_succ, List.getElem_cons_zero, List.setIfInBounds_toArray, List.set_cons_succ, List.set_cons_zero]
                    refine wpAnyH_done (by kernel_rfl) ?_ _
                    refine NoPanic.normal ?_
                    go_wp2_with (fail)
                    go_meet
                    case rel => exact ⟨g16, rfl, rfl, by omega, by omega, by omega, by omega, by omega, by omega, by omega, by omega, rp0, rl3, rl6, rl7, rl8, rl9, rg16, hw, f4⟩
                  · skip
                    refine e_world_op (.pointer (some ⟨wq11.heap.size, 0, none⟩)) (wq11.alloc (.cells #[.int .u64 0, .int .u64 0, .int .u64 0, .int .u64 0, .int .u64 0] 27)) (by kernel_rfl) ?_
                    have hb_ : Below wq11.heap.size wq11 (wq11.alloc (.cells #[.int .u64 0, .int .u64 0, .int .u64 0, .int .u64 0, .int .u64 0] 27)) := (Below.refl _ _).alloc (Nat.le_refl _) _
                    have sz_g19 := hw.size
                    have rg19 := hp1_0 wq11 (.cells #[.int .u64 0, .int .u64 0, .int .u64 0, .int .u64 0, .int .u64 0] 27)
                    have ltg19_0 := lt_of_row rp0
                    have ltg19_1 := lt_of_row rl3
                    have ltg19_2 := lt_of_row rl6
                    have ltg19_3 := lt_of_row rl7
                    have ltg19_4 := lt_of_row rl8
                    have ltg19_5 := lt_of_row rl9
                    have zg19 := f4.sz
                    replace rp0 := keep hb_ rp0
                    replace rl3 := keep hb_ rl3
                    replace rl6 := keep hb_ rl6
                    replace rl7 := keep hb_ rl7
                    replace rl8 := keep hb_ rl8
                    replace rl9 := keep hb_ rl9
                    replace hw := Below.after hw hb_
                    replace f4 := f4.below hb_
                    clear hb_
                    refine hK_ _ _ (⟨rl8, rl9⟩) ?_
                    simp only [Act.put, List.getElem_toArray, List.getElem_cons_succ, List.getElem_cons_zero, List.setIfInBounds_toArray, List.set_cons_succ, List.set_cons_zero]
                    clear hK_
                    generalize (wq11.alloc (.cells #[.int .u64 0, .int .u64 0, .int .u64 0, .int .u64 0, .int .u64 0] 27)) = wq19 at *
                    generalize wq11.heap.size = g19 at *
                    refine eH_one (k := 10) (fuel := 5) (by kernel_rfl) rfl (by kernel_rfl) (fun K_ hK_ => ?_)
                    refine wp_call_ex (f := 54) (by kernel_rfl) (ex1e (cR.at f4.1)) (fun v_ wq20 hX_ => ?_)
                    obtain ⟨rfl, hb_⟩ := hX_
                    replace rp0 := keep hb_ rp0
                    replace rl3 := keep hb_ rl3
                    replace rl6 := keep hb_ rl6
                    replace rl7 := keep hb_ rl7
                    replace rl8 := keep hb_ rl8
                    replace rl9 := keep hb_ rl9
                    replace rg19 := keep hb_ rg19
                    replace hw := Below.after hw hb_
                    replace f4 := f4.below hb_
                    clear hb_
                    refine hK_ _ _ (⟨rl8, rl9⟩) ?_
                    simp only [Act.put, List.getElem_toArray, List.getElem_cons_succ, List.getElem_cons_zero, List.setIfInBounds_toArray, List.set_cons_succ, List.set_cons_zero]
                    clear hK_
                    refine wpAnyH_take (i := 11) (v := ?v21) rfl (by kernel_rfl) (by kernel_rfl) (by kernel_rfl) (fun _ _ _ h => h) (Or.inl ⟨by rfl, ?y21⟩) (⟨rl8, rl9⟩) ?r21
                    case y21 =>
                      intro w_ hS_
                      go_simp
                      try with_reducible rfl
                    simp only [Act.put, List.getElem_toArray, List.getElem_cons_succ, List.getElem_cons_zero, List.setIfInBounds_toArray, List.set_cons_succ, List.set_cons_zero]
                    refine wpAnyH_take (i := 12) (v := ?v22) rfl (by kernel_rfl) (by kernel_rfl) (by kernel_rfl) (fun _ _ _ h => h) (Or.inl ⟨by rfl, ?y22⟩) (⟨rl8, rl9⟩) ?r22
                    case y22 =>
                      intro w_ hS_
                      go_simp
                      try with_reducible rfl
                    simp only [Act.put, List.getElem_toArray, List.getElem_cons_succ, List.getElem_cons_zero, List.setIfInBounds_toArray, List.set_cons_succ, List.set_cons_zero]
                    refine wpAnyH_take (i := 13) (v := ?v23) rfl (by kernel_rfl) (by kernel_rfl) (by kernel_rfl) (fun _ _ _ h => h) (Or.inl ⟨by rfl, ?y23⟩) (⟨rl8, rl9⟩) ?r23
                    case y23 =>
                      intro w_ hS_
                      go_simp
                      try with_reducible rfl
                    simp only [Act.put, List.getElem_toArray, List.getElem_cons_succ, List.getElem_cons_zero, List.setIfInBounds_toArray, List.set_cons_succ, List.set_cons_zero]
                    refine eH_one (k := 15) (fuel := 1) (by kernel_rfl) rfl (by kernel_rfl) (fun K_ hK_ => ?_)
                    refine wp_store_row 27 _ _ rfl (g19) s rfl rfl 27 _ rg19 hsx.info (num_zero.size.trans hsx.size.symm) hsx.one ?_
                    replace rp0 := (setRow_other wq20 (g19) (w.heap.size) s (by first | assumption | omega)).trans rp0
                    replace rl3 := (setRow_other wq20 (g19) (gp) s (by first | assumption | omega)).trans rl3
                    replace rl6 := (setRow_other wq20 (g19) (gq) s (by first | assumption | omega)).trans rl6
                    replace rl7 := (setRow_other wq20 (g19) (gy) s (by first | assumption | omega)).trans rl7
                    replace rl8 := (setRow_other wq20 (g19) (gd) s (by first | assumption | omega)).trans rl8
                    replace rl9 := (setRow_other wq20 (g19) (gs) s (by first | assumption | omega)).trans rl9
                    replace rg19 := setRow_heap wq20 (g19) _ s _ _ rg19
                    replace hw := below_setRow hw (show w.heap.size ≤ g19 by first | assumption | omega) s
                    replace f4 := f4.setRow (show 4 < g19 by first | assumption | omega) s
                    generalize wq20.setRow (g19) s = wq24 at *
                    refine hK_ _ _ (⟨rl8, rl9⟩) ?_
                    simp only [Act.put]
                    clear hK_
                    refine wpAnyH_take (i := 16) (v := ?v25) rfl (by kernel_rfl) (by kernel_rfl) (by kernel_rfl) (fun _ _ _ h => h) (Or.inl ⟨by rfl, ?y25⟩) (⟨rl8, rl9⟩) ?r25
                    case y25 =>
                      intro w_ hS_
                      go_simp
                      try with_reducible rfl
                    simp only [Act.put, List.getElem_toArray, List.getElem_cons_succ, List.getElem_cons_zero, List.setIfInBounds_toArray, List.set_cons_succ, List.set_cons_zero]
                    refine wpAnyH_done (by kernel_rfl) ?_ _
                    refine NoPanic.normal ?_
                    go_wp2_with (fail)
                    go_meet
                    case rel => exact ⟨g19, rfl, rfl, by omega, by omega, by omega, by omega, by omega, by omega, by omega, by omega, rp0, rl3, rl6, rl7, rl8, rl9, rg19, hw, f4⟩
                · skip
                  refine e_world_op (.pointer (some ⟨wq10.heap.size, 0, none⟩)) (wq10.alloc (.cells #[.int .u64 0, .int .u64 0, .int .u64 0, .int .u64 0, .int .u64 0] 27)) (by kernel_rfl) ?_
                  have hb_ : Below wq10.heap.size wq10 (wq10.alloc (.cells #[.int .u64 0, .int .u64 0, .int .u64 0, .int .u64 0, .int .u64 0] 27)) := (Below.refl _ _).alloc (Nat.le_refl _) _
                  have sz_g26 := hw.size
                  have rg26 := hp1_0 wq10 (.cells #[.int .u64 0, .int .u64 0, .int .u64 0, .int .u64 0, .int .u64 0] 27)
                  have ltg26_0 := lt_of_row rp0
                  have ltg26_1 := lt_of_row rl3
                  have ltg26_2 := lt_of_row rl6
                  have ltg26_3 := lt_of_row rl7
                  have ltg26_4 := lt_of_row rl8
                  have ltg26_5 := lt_of_row rl9
                  have zg26 := f4.sz
                  replace rp0 := keep hb_ rp0
                  replace rl3 := keep hb_ rl3
                  replace rl6 := keep hb_ rl6
                  replace rl7 := keep hb_ rl7
                  replace rl8 := keep hb_ rl8
                  replace rl9 := keep hb_ rl9
                  replace hw := Below.after hw hb_
                  replace f4 := f4.below hb_
                  clear hb_
                  refine hK_ _ _ (⟨rl8, rl9⟩) ?_
                  simp only [Act.put, List.getElem_toArray, List.getElem_cons_succ, List.getElem_cons_zero, List.setIfInBounds_toArray, List.set_cons_succ, List.set_cons_zero]
                  clear hK_
                  generalize (wq10.alloc (.cells #[.int .u64 0, .int .u64 0, .int .u64 0, .int .u64 0, .int .u64 0] 27)) = wq26 at *
                  generalize wq10.heap.size = g26 at *
                  refine eH_one (k := 9) (fuel := 6) (by kernel_rfl) rfl (by kernel_rfl) (fun K_ hK_ => ?_)
                  refine wp_call_ex (f := 49) (by kernel_rfl) (ex1e (c24.at _)) (fun v_ wq27 hX_ => ?_)
                  obtain ⟨rfl, hb_⟩ := hX_
                  replace rp0 := keep hb_ rp0
                  replace rl3 := keep hb_ rl3
                  replace rl6 := keep hb_ rl6
                  replace rl7 := keep hb_ rl7
                  replace rl8 := keep hb_ rl8
                  replace rl9 := keep hb_ rl9
                  replace rg26 := keep hb_ rg26
                  replace hw := Below.after hw hb_
                  replace f4 := f4.below hb_
                  clear hb_
                  refine hK_ _ _ (⟨rl8, rl9⟩) ?_
                  simp only [Act.put, List.getElem_toArray, List.getElem_cons_succ, List.getElem_cons_zero, List.setIfInBounds_toArray, List.set_cons_succ, List.set_cons_zero]
                  clear hK_
                  refine eH_one (k := 10) (fuel := 5) (by kernel_rfl) rfl (by kernel_rfl) (fun K_ hK_ => ?_)
                  refine wp_call_ex (f := 54) (by kernel_rfl) (ex1e (cR.at f4.1)) (fun v_ wq28 hX_ => ?_)
                  obtain ⟨rfl, hb_⟩ := hX_
                  replace rp0 := keep hb_ rp0
                  replace rl3 := keep hb_ rl3
                  replace rl6 := keep hb_ rl6
                  replace rl7 := keep hb_ rl7
                  replace rl8 := keep hb_ rl8
                  replace rl9 := keep hb_ rl9
                  replace rg26 := keep hb_ rg26
                  replace hw := Below.after hw hb_
                  replace f4 := f4.below hb_
                  clear hb_
                  refine hK_ _ _ (⟨rl8, rl9⟩) ?_
                  simp only [Act.put, List.getElem_toArray, List.getElem_cons_succ, List.getElem_cons_zero, List.setIfInBounds_toArray, List.set_cons_succ, List.set_cons_zero]
                  clear hK_
                  refine wpAnyH_take (i := 11) (v := ?v29) rfl (by kernel_rfl) (by kernel_rfl) (by kernel_rfl) (fun _ _ _ h => h) (Or.inl ⟨by rfl, ?y29⟩) (⟨rl8, rl9⟩) ?r29
                  case y29 =>
                    intro w_ hS_
                    go_simp
                    try with_reducible rfl
                  simp only [Act.put, List.getElem_toArray, List.getElem_cons_succ, List.getElem_cons_zero, List.setIfInBounds_toArray, List.set_cons_succ, List.set_cons_zero]
                  refine wpAnyH_take (i := 12) (v := ?v30) rfl (by kernel_rfl) (by kernel_rfl) (by kernel_rfl) (fun _ _ _ h => h) (Or.inl ⟨by rfl, ?y30⟩) (⟨rl8, rl9⟩) ?r30
                  case y30 =>
                    intro w_ hS_
                    go_simp
                    try with_reducible rfl
                  simp only [Act.put, List.getElem_toArray, List.getElem_cons_succ, List.getElem_cons_zero, List.setIfInBounds_toArray, List.set_cons_succ, List.set_cons_zero]
                  refine wpAnyH_take (i := 13) (v := ?v31) rfl (by kernel_rfl) (by kernel_rfl) (by kernel_rfl) (fun _ _ _ h => h) (Or.inl ⟨by rfl, ?y31⟩) (⟨rl8, rl9⟩) ?r31
                  case y31 =>
                    intro w_ hS_
                    go_simp
                    try with_reducible rfl
                  simp only [Act.put, List.getElem_toArray, List.getElem_cons_succ, List.getElem_cons_zero, List.setIfInBounds_toArray, List.set_cons_succ, List.set_cons_zero]
                  refine eH_one (k := 15) (fuel := 1) (by kernel_rfl) rfl (by kernel_rfl) (fun K_ hK_ => ?_)
                  refine wp_store_row 27 _ _ rfl (g26) s rfl rfl 27 _ rg26 hsx.info (num_zero.size.trans hsx.size.symm) hsx.one ?_
                  replace rp0 := (setRow_other wq28 (g26) (w.heap.size) s (by first | assumption | omega)).trans rp0
                  replace rl3 := (setRow_other wq28 (g26) (gp) s (by first | assumption | omega)).trans rl3
                  replace rl6 := (setRow_other wq28 (g26) (gq) s (by first | assumption | omega)).trans rl6
                  replace rl7 := (setRow_other wq28 (g26) (gy) s (by first | assumption | omega)).trans rl7
                  replace rl8 := (setRow_other wq28 (g26) (gd) s (by first | assumption | omega)).trans rl8
                  replace rl9 := (setRow_other wq28 (g26) (gs) s (by first | assumption | omega)).trans rl9
                  replace rg26 := setRow_heap wq28 (g26) _ s _ _ rg26
                  replace hw := below_setRow hw (show w.heap.size ≤ g26 by first | assumption | omega) s
                  replace f4 := f4.setRow (show 4 < g26 by first | assumption | omega) s
                  generalize wq28.setRow (g26) s = wq32 at *
                  refine hK_ _ _ (⟨rl8, rl9⟩) ?_
                  simp only [Act.put]
                  clear hK_
                  refine wpAnyH_take (i := 16) (v := ?v33) rfl (by kernel_rfl) (by kernel_rfl) (by kernel_rfl) (fun _ _ _ h => h) (Or.inl ⟨by rfl, ?y33⟩) (⟨rl8, rl9⟩) ?r33
                  case y33 =>
                    intro w_ hS_
                    go_simp
                    try with_reducible rfl
                  simp only [Act.put, List.getElem_toArray, List.getElem_cons_succ, List.getElem_cons_zero, List.setIfInBounds_toArray, List.set_cons_succ, List.set_cons_zero]
                  refine wpAnyH_done (by kernel_rfl) ?_ _
                  refine NoPanic.normal ?_
                  go_wp2_with (fail)
                  go_meet
                  case rel => exact ⟨g26, rfl, rfl, by omega, by omega, by omega, by omega, by omega, by omega, by omega, by omega, rp0, rl3, rl6, rl7, rl8, rl9, rg26, hw, f4⟩
              · skip
                refine e_world_op (.pointer (some ⟨wq9.heap.size, 0, none⟩)) (wq9.alloc (.cells #[.int .u64 0, .int .u64 0, .int .u64 0, .int .u64 0, .int .u64 0] 27)) (by kernel_rfl) ?_
                have hb_ : Below wq9.heap.size wq9 (wq9.alloc (.cells #[.int .u64 0, .int .u64 0, .int .u64 0, .int .u64 0, .int .u64 0] 27)) := (Below.refl _ _).alloc (Nat.le_refl _) _
                have sz_g34 := hw.size
                have rg34 := hp1_0 wq9 (.cells #[.int .u64 0, .int .u64 0, .int .u64 0, .int .u64 0, .int .u64 0] 27)
                have ltg34_0 := lt_of_row rp0
                have ltg34_1 := lt_of_row rl3
                have ltg34_2 := lt_of_row rl6
                have ltg34_3 := lt_of_row rl7
                have ltg34_4 := lt_of_row rl8
                have ltg34_5 := lt_of_row rl9
                have zg34 := f4.sz
                replace rp0 := keep hb_ rp0
                replace rl3 := keep hb_ rl3
                replace rl6 := keep hb_ rl6
                replace rl7 := keep hb_ rl7
                replace rl8 := keep hb_ rl8
                replace rl9 := keep hb_ rl9
                replace hw := Below.after hw hb_
                replace f4 := f4.below hb_
                clear hb_
                refine hK_ _ _ (⟨rl8, rl9⟩) ?_
                simp only [Act.put, List.getElem_toArray, List.getElem_cons_succ, List.getElem_cons_zero, List.setIfInBounds_toArray, List.set_cons_succ, List.set_cons_zero]
                clear hK_
                generalize (wq9.alloc (.cells #[.int .u64 0, .int .u64 0, .int .u64 0, .int .u64 0, .int .u64 0] 27)) = wq34 at *
                generalize wq9.heap.size = g34 at *
                refine eH_one (k := 8) (fuel := 7) (by kernel_rfl) rfl (by kernel_rfl) (fun K_ hK_ => ?_)
                refine wp_call_ex (f := 50) (by kernel_rfl) (ex1e (c23.at _)) (fun v_ wq35 hX_ => ?_)
                obtain ⟨rfl, hb_⟩ := hX_
                replace rp0 := keep hb_ rp0
                replace rl3 := keep hb_ rl3
                replace rl6 := keep hb_ rl6
                replace rl7 := keep hb_ rl7
                replace rl8 := keep hb_ rl8
                replace rl9 := keep hb_ rl9
                replace rg34 := keep hb_ rg34
                replace hw := Below.after hw hb_
                replace f4 := f4.below hb_
                clear hb_
                refine hK_ _ _ (⟨rl8, rl9⟩) ?_
                simp only [Act.put, List.getElem_toArray, List.getElem_cons_succ, List.getElem_cons_zero, List.setIfInBounds_toArray, List.set_cons_succ, List.set_cons_zero]
                clear hK_
                refine eH_one (k := 9) (fuel := 6) (by kernel_rfl) rfl (by kernel_rfl) (fun K_ hK_ => ?_)
                refine wp_call_ex (f := 49) (by kernel_rfl) (ex1e (c24.at _)) (fun v_ wq36 hX_ => ?_)
                obtain ⟨rfl, hb_⟩ := hX_
                replace rp0 := keep hb_ rp0
                replace rl3 := keep hb_ rl3
                replace rl6 := keep hb_ rl6
                replace rl7 := keep hb_ rl7
                replace rl8 := keep hb_ rl8
                replace rl9 := keep hb_ rl9
                replace rg34 := keep hb_ rg34
                replace hw := Below.after hw hb_
                replace f4 := f4.below hb_
                clear hb_
                refine hK_ _ _ (⟨rl8, rl9⟩) ?_
                simp only [Act.put, List.getElem_toArray, List.getElem_cons_succ, List.getElem_cons_zero, List.setIfInBounds_toArray, List.set_cons_succ, List.set_cons_zero]
                clear hK_
                refine eH_one (k := 10) (fuel := 5) (by kernel_rfl) rfl (by kernel_rfl) (fun K_ hK_ => ?_)
                refine wp_call_ex (f := 54) (by kernel_rfl) (ex1e (cR.at f4.1)) (fun v_ wq37 hX_ => ?_)
                obtain ⟨rfl, hb_⟩ := hX_
                replace rp0 := keep hb_ rp0
                replace rl3 := keep hb_ rl3
                replace rl6 := keep hb_ rl6
                replace rl7 := keep hb_ rl7
                replace rl8 := keep hb_ rl8
                replace rl9 := keep hb_ rl9
                replace rg34 := keep hb_ rg34
                replace hw := Below.after hw hb_
                replace f4 := f4.below hb_
                clear hb_
                refine hK_ _ _ (⟨rl8, rl9⟩) ?_
                simp only [Act.put, List.getElem_toArray, List.getElem_cons_succ, List.getElem_cons_zero, List.setIfInBounds_toArray, List.set_cons_succ, List.set_cons_zero]
                clear hK_
                refine wpAnyH_take (i := 11) (v := ?v38) rfl (by kernel_rfl) (by kernel_rfl) (by kernel_rfl) (fun _ _ _ h => h) (Or.inl ⟨by rfl, ?y38⟩) (⟨rl8, rl9⟩) ?r38
                case y38 =>
                  intro w_ hS_
                  go_simp
                  try with_reducible rfl
                simp only [Act.put, List.getElem_toArray, List.getElem_cons_succ, List.getElem_cons_zero, List.setIfInBounds_toArray, List.set_cons_succ, List.set_cons_zero]
                refine wpAnyH_take (i := 12) (v := ?v39) rfl (by kernel_rfl) (by kernel_rfl) (by kernel_rfl) (fun _ _ _ h => h) (Or.inl ⟨by rfl, ?y39⟩) (⟨rl8, rl9⟩) ?r39
                case y39 =>
                  intro w_ hS_
                  go_simp
                  try with_reducible rfl
                simp only [Act.put, List.getElem_toArray, List.getElem_cons_succ, List.getElem_cons_zero, List.setIfInBounds_toArray, List.set_cons_succ, List.set_cons_zero]
                refine wpAnyH_take (i := 13) (v := ?v40) rfl (by kernel_rfl) (by kernel_rfl) (by kernel_rfl) (fun _ _ _ h => h) (Or.inl ⟨by rfl, ?y40⟩) (⟨rl8, rl9⟩) ?r40
                case y40 =>
                  intro w_ hS_
                  go_simp
                  try with_reducible rfl
                simp only [Act.put, List.getElem_toArray, List.getElem_cons_succ, List.getElem_cons_zero, List.setIfInBounds_toArray, List.set_cons_succ, List.set_cons_zero]
                refine eH_one (k := 15) (fuel := 1) (by kernel_rfl) rfl (by kernel_rfl) (fun K_ hK_ => ?_)
                refine wp_store_row 27 _ _ rfl (g34) s rfl rfl 27 _ rg34 hsx.info (num_zero.size.trans hsx.size.symm) hsx.one ?_
                replace rp0 := (setRow_other wq37 (g34) (w.heap.size) s (by first | assumption | omega)).trans rp0
                replace rl3 := (setRow_other wq37 (g34) (gp) s (by first | assumption | omega)).trans rl3
                replace rl6 := (setRow_other wq37 (g34) (gq) s (by first | assumption | omega)).trans rl6
                replace rl7 := (setRow_other wq37 (g34) (gy) s (by first | assumption | omega)).trans rl7
                replace rl8 := (setRow_other wq37 (g34) (gd) s (by first | assumption | omega)).trans rl8
                replace rl9 := (setRow_other wq37 (g34) (gs) s (by first | assumption | omega)).trans rl9
                replace rg34 := setRow_heap wq37 (g34) _ s _ _ rg34
                replace hw := below_setRow hw (show w.heap.size ≤ g34 by first | assumption | omega) s
                replace f4 := f4.setRow (show 4 < g34 by first | assumption | omega) s
                generalize wq37.setRow (g34) s = wq41 at *
                refine hK_ _ _ (⟨rl8, rl9⟩) ?_
                simp only [Act.put]
                clear hK_
                refine wpAnyH_take (i := 16) (v := ?v42) rfl (by kernel_rfl) (by kernel_rfl) (by kernel_rfl) (fun _ _ _ h => h) (Or.inl ⟨by rfl, ?y42⟩) (⟨rl8, rl9⟩) ?r42
                case y42 =>
                  intro w_ hS_
                  go_simp
                  try with_reducible rfl
                simp only [Act.put, List.getElem_toArray, List.getElem_cons_succ, List.getElem_cons_zero, List.setIfInBounds_toArray, List.set_cons_succ, List.set_cons_zero]
                refine wpAnyH_done (by kernel_rfl) ?_ _
                refine NoPanic.normal ?_
                go_wp2_with (fail)
                go_meet
                case rel => exact ⟨g34, rfl, rfl, by omega, by omega, by omega, by omega, by omega, by omega, by omega, by omega, rp0, rl3, rl6, rl7, rl8, rl9, rg34, hw, f4⟩
            · skip
              refine e_world_op (.pointer (some ⟨wq8.heap.size, 0, none⟩)) (wq8.alloc (.cells #[.int .u64 0, .int .u64 0, .int .u64 0, .int .u64 0, .int .u64 0] 27)) (by kernel_rfl) ?_
              have hb_ : Below wq8.heap.size wq8 (wq8.alloc (.cells #[.int .u64 0, .int .u64 0, .int .u64 0, .int .u64 0, .int .u64 0] 27)) := (Below.refl _ _).alloc (Nat.le_refl _) _
              have sz_g43 := hw.size
              have rg43 := hp1_0 wq8 (.cells #[.int .u64 0, .int .u64 0, .int .u64 0, .int .u64 0, .int .u64 0] 27)
              have ltg43_0 := lt_of_row rp0
              have ltg43_1 := lt_of_row rl3
              have ltg43_2 := lt_of_row rl6
              have ltg43_3 := lt_of_row rl7
              have ltg43_4 := lt_of_row rl8
              have ltg43_5 := lt_of_row rl9
              have zg43 := f4.sz
              replace rp0 := keep hb_ rp0
              replace rl3 := keep hb_ rl3
              replace rl6 := keep hb_ rl6
              replace rl7 := keep hb_ rl7
              replace rl8 := keep hb_ rl8
              replace rl9 := keep hb_ rl9
              replace hw := Below.after hw hb_
              replace f4 := f4.below hb_
              clear hb_
              refine hK_ _ _ (⟨rl8, rl9⟩) ?_
              simp only [Act.put, List.getElem_toArray, List.getElem_cons_succ, List.getElem_cons_zero, List.setIfInBounds_toArray, List.set_cons_succ, List.set_cons_zero]
              clear hK_
              generalize (wq8.alloc (.cells #[.int .u64 0, .int .u64 0, .int .u64 0, .int .u64 0, .int .u64 0] 27)) = wq43 at *
              generalize wq8.heap.size = g43 at *
              refine eH_one (k := 7) (fuel := 8) (by kernel_rfl) rfl (by kernel_rfl) (fun K_ hK_ => ?_)
              refine wp_call_ex (f := 53) (by kernel_rfl) (ex1e (c22.at _)) (fun v_ wq44 hX_ => ?_)
              obtain ⟨rfl, hb_⟩ := hX_
              replace rp0 := keep hb_ rp0
              replace rl3 := keep hb_ rl3
              replace rl6 := keep hb_ rl6
              replace rl7 := keep hb_ rl7
              replace rl8 := keep hb_ rl8
              replace rl9 := keep hb_ rl9
              replace rg43 := keep hb_ rg43
              replace hw := Below.after hw hb_
              replace f4 := f4.below hb_
              clear hb_
              refine hK_ _ _ (⟨rl8, rl9⟩) ?_
              simp only [Act.put, List.getElem_toArray, List.getElem_cons_succ, List.getElem_cons_zero, List.setIfInBounds_toArray, List.set_cons_succ, List.set_cons_zero]
              clear hK_
              refine eH_one (k := 8) (fuel := 7) (by kernel_rfl) rfl (by kernel_rfl) (fun K_ hK_ => ?_)
              refine wp_call_ex (f := 50) (by kernel_rfl) (ex1e (c23.at _)) (fun v_ wq45 hX_ => ?_)
              obtain ⟨rfl, hb_⟩ := hX_
              replace rp0 := keep hb_ rp0
              replace rl3 := keep hb_ rl3
              replace rl6 := keep hb_ rl6
              replace rl7 := keep hb_ rl7
              replace rl8 := keep hb_ rl8
              replace rl9 := keep hb_ rl9
              replace rg43 := keep hb_ rg43
              replace hw := Below.after hw hb_
              replace f4 := f4.below hb_
              clear hb_
              refine hK_ _ _ (⟨rl8, rl9⟩) ?_
              simp only [Act.put, List.getElem_toArray, List.getElem_cons_succ, List.getElem_cons_zero, List.setIfInBounds_toArray, List.set_cons_succ, List.set_cons_zero]
              clear hK_
              refine eH_one (k := 9) (fuel := 6) (by kernel_rfl) rfl (by kernel_rfl) (fun K_ hK_ => ?_)
              refine wp_call_ex (f := 49) (by kernel_rfl) (ex1e (c24.at _)) (fun v_ wq46 hX_ => ?_)
              obtain ⟨rfl, hb_⟩ := hX_
              replace rp0 := keep hb_ rp0
              replace rl3 := keep hb_ rl3
              replace rl6 := keep hb_ rl6
              replace rl7 := keep hb_ rl7
              replace rl8 := keep hb_ rl8
              replace rl9 := keep hb_ rl9
              replace rg43 := keep hb_ rg43
              replace hw := Below.after hw hb_
              replace f4 := f4.below hb_
              clear hb_
              refine hK_ _ _ (⟨rl8, rl9⟩) ?_
              simp only [Act.put, List.getElem_toArray, List.getElem_cons_succ, List.getElem_cons_zero, List.setIfInBounds_toArray, List.set_cons_succ, List.set_cons_zero]
              clear hK_
              refine eH_one (k := 10) (fuel := 5) (by kernel_rfl) rfl (by kernel_rfl) (fun K_ hK_ => ?_)
              refine wp_call_ex (f := 54) (by kernel_rfl) (ex1e (cR.at f4.1)) (fun v_ wq47 hX_ => ?_)
              obtain ⟨rfl, hb_⟩ := hX_
              replace rp0 := keep hb_ rp0
              replace rl3 := keep hb_ rl3
              replace rl6 := keep hb_ rl6
              replace rl7 := keep hb_ rl7
              replace rl8 := keep hb_ rl8
              replace rl9 := keep hb_ rl9
              replace rg43 := keep hb_ rg43
              replace hw := Below.after hw hb_
              replace f4 := f4.below hb_
              clear hb_
              refine hK_ _ _ (⟨rl8, rl9⟩) ?_
              simp only [Act.put, List.getElem_toArray, List.getElem_cons_succ, List.getElem_cons_zero, List.setIfInBounds_toArray, List.set_cons_succ, List.set_cons_zero]
              clear hK_
              refine wpAnyH_take (i := 11) (v := ?v48) rfl (by kernel_rfl) (by kernel_rfl) (by kernel_rfl) (fun _ _ _ h => h) (Or.inl ⟨by rfl, ?y48⟩) (⟨rl8, rl9⟩) ?r48
              case y48 =>
                intro w_ hS_
                go_simp
                try with_reducible rfl
              simp only [Act.put, List.getElem_toArray, List.getElem_cons_succ, List.getElem_cons_zero, List.setIfInBounds_toArray, List.set_cons_succ, List.set_cons_zero]
              refine wpAnyH_take (i := 12) (v := ?v49) rfl (by kernel_rfl) (by kernel_rfl) (by kernel_rfl) (fun _ _ _ h => h) (Or.inl ⟨by rfl, ?y49⟩) (⟨rl8, rl9⟩) ?r49
              case y49 =>
                intro w_ hS_
                go_simp
                try with_reducible rfl
              simp only [Act.put, List.getElem_toArray, List.getElem_cons_succ, List.getElem_cons_zero, List.setIfInBounds_toArray, List.set_cons_succ, List.set_cons_zero]
              refine wpAnyH_take (i := 13) (v := ?v50) rfl (by kernel_rfl) (by kernel_rfl) (by kernel_rfl) (fun _ _ _ h => h) (Or.inl ⟨by rfl, ?y50⟩) (⟨rl8, rl9⟩) ?r50
              case y50 =>
                intro w_ hS_
                go_simp
                try with_reducible rfl
              simp only [Act.put, List.getElem_toArray, List.getElem_cons_succ, List.getElem_cons_zero, List.setIfInBounds_toArray, List.set_cons_succ, List.set_cons_zero]
              refine eH_one (k := 15) (fuel := 1) (by kernel_rfl) rfl (by kernel_rfl) (fun K_ hK_ => ?_)
              refine wp_store_row 27 _ _ rfl (g43) s rfl rfl 27 _ rg43 hsx.info (num_zero.size.trans hsx.size.symm) hsx.one ?_
              replace rp0 := (setRow_other wq47 (g43) (w.heap.size) s (by first | assumption | omega)).trans rp0
              replace rl3 := (setRow_other wq47 (g43) (gp) s (by first | assumption | omega)).trans rl3
              replace rl6 := (setRow_other wq47 (g43) (gq) s (by first | assumption | omega)).trans rl6
              replace rl7 := (setRow_other wq47 (g43) (gy) s (by first | assumption | omega)).trans rl7
              replace rl8 := (setRow_other wq47 (g43) (gd) s (by first | assumption | omega)).trans rl8
              replace rl9 := (setRow_other wq47 (g43) (gs) s (by first | assumption | omega)).trans rl9
              replace rg43 := setRow_heap wq47 (g43) _ s _ _ rg43
              replace hw := below_setRow hw (show w.heap.size ≤ g43 by first | assumption | omega) s
              replace f4 := f4.setRow (show 4 < g43 by first | assumption | omega) s
              generalize wq47.setRow (g43) s = wq51 at *
              refine hK_ _ _ (⟨rl8, rl9⟩) ?_
              simp only [Act.put]
              clear hK_
              refine wpAnyH_take (i := 16) (v := ?v52) rfl (by kernel_rfl) (by kernel_rfl) (by kernel_rfl) (fun _ _ _ h => h) (Or.inl ⟨by rfl, ?y52⟩) (⟨rl8, rl9⟩) ?r52
              case y52 =>
                intro w_ hS_
                go_simp
                try with_reducible rfl
              simp only [Act.put, List.getElem_toArray, List.getElem_cons_succ, List.getElem_cons_zero, List.setIfInBounds_toArray, List.set_cons_succ, List.set_cons_zero]
              refine wpAnyH_done (by kernel_rfl) ?_ _
              refine NoPanic.normal ?_
              go_wp2_with (fail)
              go_meet
              case rel => exact ⟨g43, rfl, rfl, by omega, by omega, by omega, by omega, by omega, by omega, by omega, by omega, rp0, rl3, rl6, rl7, rl8, rl9, rg43, hw, f4⟩
          · skip
            refine e_world_op (.pointer (some ⟨wq7.heap.size, 0, none⟩)) (wq7.alloc (.cells #[.int .u64 0, .int .u64 0, .int .u64 0, .int .u64 0, .int .u64 0] 27)) (by kernel_rfl) ?_
            have hb_ : Below wq7.heap.size wq7 (wq7.alloc (.cells #[.int .u64 0, .int .u64 0, .int .u64 0, .int .u64 0, .int .u64 0] 27)) := (Below.refl _ _).alloc (Nat.le_refl _) _
            have sz_g53 := hw.size
            have rg53 := hp1_0 wq7 (.cells #[.int .u64 0, .int .u64 0, .int .u64 0, .int .u64 0, .int .u64 0] 27)
            have ltg53_0 := lt_of_row rp0
            have ltg53_1 := lt_of_row rl3
            have ltg53_2 := lt_of_row rl6
            have ltg53_3 := lt_of_row rl7
            have ltg53_4 := lt_of_row rl8
            have ltg53_5 := lt_of_row rl9
            have zg53 := f4.sz
            replace rp0 := keep hb_ rp0
            replace rl3 := keep hb_ rl3
            replace rl6 := keep hb_ rl6
            replace rl7 := keep hb_ rl7
            replace rl8 := keep hb_ rl8
            replace rl9 := keep hb_ rl9
            replace hw := Below.after hw hb_
            replace f4 := f4.below hb_
            clear hb_
            refine hK_ _ _ (⟨rl8, rl9⟩) ?_
            simp only [Act.put, List.getElem_toArray, List.getElem_cons_succ, List.getElem_cons_zero, List.setIfInBounds_toArray, List.set_cons_succ, List.set_cons_zero]
            clear hK_
            generalize (wq7.alloc (.cells #[.int .u64 0, .int .u64 0, .int .u64 0, .int .u64 0, .int .u64 0] 27)) = wq53 at *
            generalize wq7.heap.size = g53 at *
            refine eH_one (k := 6) (fuel := 9) (by kernel_rfl) rfl (by kernel_rfl) (fun K_ hK_ => ?_)
            refine wp_call_ex (f := 47) (by kernel_rfl) (ex1e (c19.at _)) (fun v_ wq54 hX_ => ?_)
            obtain ⟨rfl, hb_⟩ := hX_
            replace rp0 := keep hb_ rp0
            replace rl3 := keep hb_ rl3
            replace rl6 := keep hb_ rl6
            replace rl7 := keep hb_ rl7
            replace rl8 := keep hb_ rl8
            replace rl9 := keep hb_ rl9
            replace rg53 := keep hb_ rg53
            replace hw := Below.after hw hb_
            replace f4 := f4.below hb_
            clear hb_
            refine hK_ _ _ (⟨rl8, rl9⟩) ?_
            simp only [Act.put, List.getElem_toArray, List.getElem_cons_succ, List.getElem_cons_zero, List.setIfInBounds_toArray, List.set_cons_succ, List.set_cons_zero]
            clear hK_
            refine eH_one (k := 7) (fuel := 8) (by kernel_rfl) rfl (by kernel_rfl) (fun K_ hK_ => ?_)
            refine wp_call_ex (f := 53) (by kernel_rfl) (ex1e (c22.at _)) (fun v_ wq55 hX_ => ?_)
            obtain ⟨rfl, hb_⟩ := hX_
            replace rp0 := keep hb_ rp0
            replace rl3 := keep hb_ rl3
            replace rl6 := keep hb_ rl6
            replace rl7 := keep hb_ rl7
            replace rl8 := keep hb_ rl8
            replace rl9 := keep hb_ rl9
            replace rg53 := keep hb_ rg53
            replace hw := Below.after hw hb_
            replace f4 := f4.below hb_
            clear hb_
            refine hK_ _ _ (⟨rl8, rl9⟩) ?_
            simp only [Act.put, List.getElem_toArray, List.getElem_cons_succ, List.getElem_cons_zero, List.setIfInBounds_toArray, List.set_cons_succ, List.set_cons_zero]
            clear hK_
            refine eH_one (k := 8) (fuel := 7) (by kernel_rfl) rfl (by kernel_rfl) (fun K_ hK_ => ?_)
            refine wp_call_ex (f := 50) (by kernel_rfl) (ex1e (c23.at _)) (fun v_ wq56 hX_ => ?_)
            obtain ⟨rfl, hb_⟩ := hX_
            replace rp0 := keep hb_ rp0
            replace rl3 := keep hb_ rl3
            replace rl6 := keep hb_ rl6
            replace rl7 := keep hb_ rl7
            replace rl8 := keep hb_ rl8
            replace rl9 := keep hb_ rl9
            replace rg53 := keep hb_ rg53
            replace hw := Below.after hw hb_
            replace f4 := f4.below hb_
            clear hb_
            refine hK_ _ _ (⟨rl8, rl9⟩) ?_
            simp only [Act.put, List.getElem_toArray, List.getElem_cons_succ, List.getElem_cons_zero, List.setIfInBounds_toArray, List.set_cons_succ, List.set_cons_zero]
            clear hK_
            refine eH_one (k := 9) (fuel := 6) (by kernel_rfl) rfl (by kernel_rfl) (fun K_ hK_ => ?_)
            refine wp_call_ex (f := 49) (by kernel_rfl) (ex1e (c24.at _)) (fun v_ wq57 hX_ => ?_)
            obtain ⟨rfl, hb_⟩ := hX_
            replace rp0 := keep hb_ rp0
            replace rl3 := keep hb_ rl3
            replace rl6 := keep hb_ rl6
            replace rl7 := keep hb_ rl7
            replace rl8 := keep hb_ rl8
            replace rl9 := keep hb_ rl9
            replace rg53 := keep hb_ rg53
            replace hw := Below.after hw hb_
            replace f4 := f4.below hb_
            clear hb_
            refine hK_ _ _ (⟨rl8, rl9⟩) ?_
            simp only [Act.put, List.getElem_toArray, List.getElem_cons_succ, List.getElem_cons_zero, List.setIfInBounds_toArray, List.set_cons_succ, List.set_cons_zero]
            clear hK_
            refine eH_one (k := 10) (fuel := 5) (by kernel_rfl) rfl (by kernel_rfl) (fun K_ hK_ => ?_)
            refine wp_call_ex (f := 54) (by kernel_rfl) (ex1e (cR.at f4.1)) (fun v_ wq58 hX_ => ?_)
            obtain ⟨rfl, hb_⟩ := hX_
            replace rp0 := keep hb_ rp0
            replace rl3 := keep hb_ rl3
            replace rl6 := keep hb_ rl6
            replace rl7 := keep hb_ rl7
            replace rl8 := keep hb_ rl8
            replace rl9 := keep hb_ rl9
            replace rg53 := keep hb_ rg53
            replace hw := Below.after hw hb_
            replace f4 := f4.below hb_
            clear hb_
            refine hK_ _ _ (⟨rl8, rl9⟩) ?_
            simp only [Act.put, List.getElem_toArray, List.getElem_cons_succ, List.getElem_cons_zero, List.setIfInBounds_toArray, List.set_cons_succ, List.set_cons_zero]
            clear hK_
            refine wpAnyH_take (i := 11) (v := ?v59) rfl (by kernel_rfl) (by kernel_rfl) (by kernel_rfl) (fun _ _ _ h => h) (Or.inl ⟨by rfl, ?y59⟩) (⟨rl8, rl9⟩) ?r59
            case y59 =>
              intro w_ hS_
              go_simp
              try with_reducible rfl
            simp only [Act.put, List.getElem_toArray, List.getElem_cons_succ, List.getElem_cons_zero, List.setIfInBounds_toArray, List.set_cons_succ, List.set_cons_zero]
            refine wpAnyH_take (i := 12) (v := ?v60) rfl (by kernel_rfl) (by kernel_rfl) (by kernel_rfl) (fun _ _ _ h => h) (Or.inl ⟨by rfl, ?y60⟩) (⟨rl8, rl9⟩) ?r60
            case y60 =>
              intro w_ hS_
              go_simp
              try with_reducible rfl
            simp only [Act.put, List.getElem_toArray, List.getElem_cons_succ, List.getElem_cons_zero, List.setIfInBounds_toArray, List.set_cons_succ, List.set_cons_zero]
            refine wpAnyH_take (i := 13) (v := ?v61) rfl (by kernel_rfl) (by kernel_rfl) (by kernel_rfl) (fun _ _ _ h => h) (Or.inl ⟨by rfl, ?y61⟩) (⟨rl8, rl9⟩) ?r61
            case y61 =>
              intro w_ hS_
              go_simp
              try with_reducible rfl
            simp only [Act.put, List.getElem_toArray, List.getElem_cons_succ, List.getElem_cons_zero, List.setIfInBounds_toArray, List.set_cons_succ, List.set_cons_zero]
            refine eH_one (k := 15) (fuel := 1) (by kernel_rfl) rfl (by kernel_rfl) (fun K_ hK_ => ?_)
            refine wp_store_row 27 _ _ rfl (g53) s rfl rfl 27 _ rg53 hsx.info (num_zero.size.trans hsx.size.symm) hsx.one ?_
            replace rp0 := (setRow_other wq58 (g53) (w.heap.size) s (by first | assumption | omega)).trans rp0
            replace rl3 := (setRow_other wq58 (g53) (gp) s (by first | assumption | omega)).trans rl3
            replace rl6 := (setRow_other wq58 (g53) (gq) s (by first | assumption | omega)).trans rl6
            replace rl7 := (setRow_other wq58 (g53) (gy) s (by first | assumption | omega)).trans rl7
            replace rl8 := (setRow_other wq58 (g53) (gd) s (by first | assumption | omega)).trans rl8
            replace rl9 := (setRow_other wq58 (g53) (gs) s (by first | assumption | omega)).trans rl9
            replace rg53 := setRow_heap wq58 (g53) _ s _ _ rg53
            replace hw := below_setRow hw (show w.heap.size ≤ g53 by first | assumption | omega) s
            replace f4 := f4.setRow (show 4 < g53 by first | assumption | omega) s
            generalize wq58.setRow (g53) s = wq62 at *
            refine hK_ _ _ (⟨rl8, rl9⟩) ?_
            simp only [Act.put]
            clear hK_
            refine wpAnyH_take (i := 16) (v := ?v63) rfl (by kernel_rfl) (by kernel_rfl) (by kernel_rfl) (fun _ _ _ h => h) (Or.inl ⟨by rfl, ?y63⟩) (⟨rl8, rl9⟩) ?r63
            case y63 =>
              intro w_ hS_
              go_simp
              try with_reducible rfl
            simp only [Act.put, List.getElem_toArray, List.getElem_cons_succ, List.getElem_cons_zero, List.setIfInBounds_toArray, List.set_cons_succ, List.set_cons_zero]
            refine wpAnyH_done (by kernel_rfl) ?_ _
            refine NoPanic.normal ?_
            go_wp2_with (fail)
            go_meet
            case rel => exact ⟨g53, rfl, rfl, by omega, by omega, by omega, by omega, by omega, by omega, by omega, by omega, rp0, rl3, rl6, rl7, rl8, rl9, rg53, hw, f4⟩
        · skip
          refine e_world_op (.pointer (some ⟨wq6.heap.size, 0, none⟩)) (wq6.alloc (.cells #[.int .u64 0, .int .u64 0, .int .u64 0, .int .u64 0, .int .u64 0] 27)) (by kernel_rfl) ?_
          have hb_ : Below wq6.heap.size wq6 (wq6.alloc (.cells #[.int .u64 0, .int .u64 0, .int .u64 0, .int .u64 0, .int .u64 0] 27)) := (Below.refl _ _).alloc (Nat.le_refl _) _
          have sz_g64 := hw.size
          have rg64 := hp1_0 wq6 (.cells #[.int .u64 0, .int .u64 0, .int .u64 0, .int .u64 0, .int .u64 0] 27)
          have ltg64_0 := lt_of_row rp0
          have ltg64_1 := lt_of_row rl3
          have ltg64_2 := lt_of_row rl6
          have ltg64_3 := lt_of_row rl7
          have ltg64_4 := lt_of_row rl8
          have ltg64_5 := lt_of_row rl9
          have zg64 := f4.sz
          replace rp0 := keep hb_ rp0
          replace rl3 := keep hb_ rl3
          replace rl6 := keep hb_ rl6
          replace rl7 := keep hb_ rl7
          replace rl8 := keep hb_ rl8
          replace rl9 := keep hb_ rl9
          replace hw := Below.after hw hb_
          replace f4 := f4.below hb_
          clear hb_
          refine hK_ _ _ (⟨rl8, rl9⟩) ?_
          simp only [Act.put, List.getElem_toArray, List.getElem_cons_succ, List.getElem_cons_zero, List.setIfInBounds_toArray, List.set_cons_succ, List.set_cons_zero]
          clear hK_
          generalize (wq6.alloc (.cells #[.int .u64 0, .int .u64 0, .int .u64 0, .int .u64 0, .int .u64 0] 27)) = wq64 at *
          generalize wq6.heap.size = g64 at *
          refine eH_one (k := 5) (fuel := 10) (by kernel_rfl) rfl (by kernel_rfl) (fun K_ hK_ => ?_)
          refine wp_call_ex (f := 49) (by kernel_rfl) (ex1e (c21.at _)) (fun v_ wq65 hX_ => ?_)
          obtain ⟨rfl, hb_⟩ := hX_
          replace rp0 := keep hb_ rp0
          replace rl3 := keep hb_ rl3
          replace rl6 := keep hb_ rl6
          replace rl7 := keep hb_ rl7
          replace rl8 := keep hb_ rl8
          replace rl9 := keep hb_ rl9
          replace rg64 := keep hb_ rg64
          replace hw := Below.after hw hb_
          replace f4 := f4.below hb_
          clear hb_
          refine hK_ _ _ (⟨rl8, rl9⟩) ?_
          simp only [Act.put, List.getElem_toArray, List.getElem_cons_succ, List.getElem_cons_zero, List.setIfInBounds_toArray, List.set_cons_succ, List.set_cons_zero]
          clear hK_
          refine eH_one (k := 6) (fuel := 9) (by kernel_rfl) rfl (by kernel_rfl) (fun K_ hK_ => ?_)
          refine wp_call_ex (f := 47) (by kernel_rfl) (ex1e (c19.at _)) (fun v_ wq66 hX_ => ?_)
          obtain ⟨rfl, hb_⟩ := hX_
          replace rp0 := keep hb_ rp0
          replace rl3 := keep hb_ rl3
          replace rl6 := keep hb_ rl6
          replace rl7 := keep hb_ rl7
          replace rl8 := keep hb_ rl8
          replace rl9 := keep hb_ rl9
          replace rg64 := keep hb_ rg64
          replace hw := Below.after hw hb_
          replace f4 := f4.below hb_
          clear hb_
          refine hK_ _ _ (⟨rl8, rl9⟩) ?_
          simp only [Act.put, List.getElem_toArray, List.getElem_cons_succ, List.getElem_cons_zero, List.setIfInBounds_toArray, List.set_cons_succ, List.set_cons_zero]
          clear hK_
          refine eH_one (k := 7) (fuel := 8) (by kernel_rfl) rfl (by kernel_rfl) (fun K_ hK_ => ?_)
          refine wp_call_ex (f := 53) (by kernel_rfl) (ex1e (c22.at _)) (fun v_ wq67 hX_ => ?_)
          obtain ⟨rfl, hb_⟩ := hX_
          replace rp0 := keep hb_ rp0
          replace rl3 := keep hb_ rl3
          replace rl6 := keep hb_ rl6
          replace rl7 := keep hb_ rl7
          replace rl8 := keep hb_ rl8
          replace rl9 := keep hb_ rl9
          replace rg64 := keep hb_ rg64
          replace hw := Below.after hw hb_
          replace f4 := f4.below hb_
          clear hb_
          refine hK_ _ _ (⟨rl8, rl9⟩) ?_
          simp only [Act.put, List.getElem_toArray, List.getElem_cons_succ, List.getElem_cons_zero, List.setIfInBounds_toArray, List.set_cons_succ, List.set_cons_zero]
          clear hK_
          refine eH_one (k := 8) (fuel := 7) (by kernel_rfl) rfl (by kernel_rfl) (fun K_ hK_ => ?_)
          refine wp_call_ex (f := 50) (by kernel_rfl) (ex1e (c23.at _)) (fun v_ wq68 hX_ => ?_)
          obtain ⟨rfl, hb_⟩ := hX_
          replace rp0 := keep hb_ rp0
          replace rl3 := keep hb_ rl3
          replace rl6 := keep hb_ rl6
          replace rl7 := keep hb_ rl7
          replace rl8 := keep hb_ rl8
          replace rl9 := keep hb_ rl9
          replace rg64 := keep hb_ rg64
          replace hw := Below.after hw hb_
          replace f4 := f4.below hb_
          clear hb_
          refine hK_ _ _ (⟨rl8, rl9⟩) ?_
          simp only [Act.put, List.getElem_toArray, List.getElem_cons_succ, List.getElem_cons_zero, List.setIfInBounds_toArray, List.set_cons_succ, List.set_cons_zero]
          clear hK_
          refine eH_one (k := 9) (fuel := 6) (by kernel_rfl) rfl (by kernel_rfl) (fun K_ hK_ => ?_)
          refine wp_call_ex (f := 49) (by kernel_rfl) (ex1e (c24.at _)) (fun v_ wq69 hX_ => ?_)
          obtain ⟨rfl, hb_⟩ := hX_
          replace rp0 := keep hb_ rp0
          replace rl3 := keep hb_ rl3
          replace rl6 := keep hb_ rl6
          replace rl7 := keep hb_ rl7
          replace rl8 := keep hb_ rl8
          replace rl9 := keep hb_ rl9
          replace rg64 := keep hb_ rg64
          replace hw := Below.after hw hb_
          replace f4 := f4.below hb_
          clear hb_
          refine hK_ _ _ (⟨rl8, rl9⟩) ?_
          simp only [Act.put, List.getElem_toArray, List.getElem_cons_succ, List.getElem_cons_zero, List.setIfInBounds_toArray, List.set_cons_succ, List.set_cons_zero]
          clear hK_
          refine eH_one (k := 10) (fuel := 5) (by kernel_rfl) rfl (by kernel_rfl) (fun K_ hK_ => ?_)
          refine wp_call_ex (f := 54) (by kernel_rfl) (ex1e (cR.at f4.1)) (fun v_ wq70 hX_ => ?_)
          obtain ⟨rfl, hb_⟩ := hX_
          replace rp0 := keep hb_ rp0
          replace rl3 := keep hb_ rl3
          replace rl6 := keep hb_ rl6
          replace rl7 := keep hb_ rl7
          replace rl8 := keep hb_ rl8
          replace rl9 := keep hb_ rl9
          replace rg64 := keep hb_ rg64
          replace hw := Below.after hw hb_
          replace f4 := f4.below hb_
          clear hb_
          refine hK_ _ _ (⟨rl8, rl9⟩) ?_
          simp only [Act.put, List.getElem_toArray, List.getElem_cons_succ, List.getElem_cons_zero, List.setIfInBounds_toArray, List.set_cons_succ, List.set_cons_zero]
          clear hK_
          refine wpAnyH_take (i := 11) (v := ?v71) rfl (by kernel_rfl) (by kernel_rfl) (by kernel_rfl) (fun _ _ _ h => h) (Or.inl ⟨by rfl, ?y71⟩) (⟨rl8, rl9⟩) ?r71
          case y71 =>
            intro w_ hS_
            go_simp
            try with_reducible rfl
          simp only [Act.put, List.getElem_toArray, List.getElem_cons_succ, List.getElem_cons_zero, List.setIfInBounds_toArray, List.set_cons_succ, List.set_cons_zero]
          refine wpAnyH_take (i := 12) (v := ?v72) rfl (by kernel_rfl) (by kernel_rfl) (by kernel_rfl) (fun _ _ _ h => h) (Or.inl ⟨by rfl, ?y72⟩) (⟨rl8, rl9⟩) ?r72
          case y72 =>
            intro w_ hS_
            go_simp
            try with_reducible rfl
          simp only [Act.put, List.getElem_toArray, List.getElem_cons_succ, List.getElem_cons_zero, List.setIfInBounds_toArray, List.set_cons_succ, List.set_cons_zero]
          refine wpAnyH_take (i := 13) (v := ?v73) rfl (by kernel_rfl) (by kernel_rfl) (by kernel_rfl) (fun _ _ _ h => h) (Or.inl ⟨by rfl, ?y73⟩) (⟨rl8, rl9⟩) ?r73
          case y73 =>
            intro w_ hS_
            go_simp
            try with_reducible rfl
          simp only [Act.put, List.getElem_toArray, List.getElem_cons_succ, List.getElem_cons_zero, List.setIfInBounds_toArray, List.set_cons_succ, List.set_cons_zero]
          refine eH_one (k := 15) (fuel := 1) (by kernel_rfl) rfl (by kernel_rfl) (fun K_ hK_ => ?_)
          refine wp_store_row 27 _ _ rfl (g64) s rfl rfl 27 _ rg64 hsx.info (num_zero.size.trans hsx.size.symm) hsx.one ?_
          replace rp0 := (setRow_other wq70 (g64) (w.heap.size) s (by first | assumption | omega)).trans rp0
          replace rl3 := (setRow_other wq70 (g64) (gp) s (by first | assumption | omega)).trans rl3
          replace rl6 := (setRow_other wq70 (g64) (gq) s (by first | assumption | omega)).trans rl6
          replace rl7 := (setRow_other wq70 (g64) (gy) s (by first | assumption | omega)).trans rl7
          replace rl8 := (setRow_other wq70 (g64) (gd) s (by first | assumption | omega)).trans rl8
          replace rl9 := (setRow_other wq70 (g64) (gs) s (by first | assumption | omega)).trans rl9
          replace rg64 := setRow_heap wq70 (g64) _ s _ _ rg64
          replace hw := below_setRow hw (show w.heap.size ≤ g64 by first | assumption | omega) s
          replace f4 := f4.setRow (show 4 < g64 by first | assumption | omega) s
          generalize wq70.setRow (g64) s = wq74 at *
          refine hK_ _ _ (⟨rl8, rl9⟩) ?_
          simp only [Act.put]
          clear hK_
          refine wpAnyH_take (i := 16) (v := ?v75) rfl (by kernel_rfl) (by kernel_rfl) (by kernel_rfl) (fun _ _ _ h => h) (Or.inl ⟨by rfl, ?y75⟩) (⟨rl8, rl9⟩) ?r75
          case y75 =>
            intro w_ hS_
            go_simp
            try with_reducible rfl
          simp only [Act.put, List.getElem_toArray, List.getElem_cons_succ, List.getElem_cons_zero, List.setIfInBounds_toArray, List.set_cons_succ, List.set_cons_zero]
          refine wpAnyH_done (by kernel_rfl) ?_ _
          refine NoPanic.normal ?_
          go_wp2_with (fail)
          go_meet
          case rel => exact ⟨g64, rfl, rfl, by omega, by omega, by omega, by omega, by omega, by omega, by omega, by omega, rp0, rl3, rl6, rl7, rl8, rl9, rg64, hw, f4⟩
      · skip
        refine e_world_op (.pointer (some ⟨wq5.heap.size, 0, none⟩)) (wq5.alloc (.cells #[.int .u64 0, .int .u64 0, .int .u64 0, .int .u64 0, .int .u64 0] 27)) (by kernel_rfl) ?_
        have hb_ : Below wq5.heap.size wq5 (wq5.alloc (.cells #[.int .u64 0, .int .u64 0, .int .u64 0, .int .u64 0, .int .u64 0] 27)) := (Below.refl _ _).alloc (Nat.le_refl _) _
        have sz_g76 := hw.size
        have rg76 := hp1_0 wq5 (.cells #[.int .u64 0, .int .u64 0, .int .u64 0, .int .u64 0, .int .u64 0] 27)
        have ltg76_0 := lt_of_row rp0
        have ltg76_1 := lt_of_row rl3
        have ltg76_2 := lt_of_row rl6
        have ltg76_3 := lt_of_row rl7
        have ltg76_4 := lt_of_row rl8
        have ltg76_5 := lt_of_row rl9
        have zg76 := f4.sz
        replace rp0 := keep hb_ rp0
        replace rl3 := keep hb_ rl3
        replace rl6 := keep hb_ rl6
        replace rl7 := keep hb_ rl7
        replace rl8 := keep hb_ rl8
        replace rl9 := keep hb_ rl9
        replace hw := Below.after hw hb_
        replace f4 := f4.below hb_
        clear hb_
        refine hK_ _ _ (⟨rl8, rl9⟩) ?_
        simp only [Act.put, List.getElem_toArray, List.getElem_cons_succ, List.getElem_cons_zero, List.setIfInBounds_toArray, List.set_cons_succ, List.set_cons_zero]
        clear hK_
        generalize (wq5.alloc (.cells #[.int .u64 0, .int .u64 0, .int .u64 0, .int .u64 0, .int .u64 0] 27)) = wq76 at *
        generalize wq5.heap.size = g76 at *
        refine eH_one (k := 2) (fuel := 11) (by kernel_rfl) rfl (by kernel_rfl) (fun K_ hK_ => ?_)
        refine wp_call_ex (f := 52) (by kernel_rfl) (ex1e (c20.at f4.1.1)) (fun v_ wq77 hX_ => ?_)
        obtain ⟨rfl, hb_⟩ := hX_
        replace rp0 := keep hb_ rp0
        replace rl3 := keep hb_ rl3
        replace rl6 := keep hb_ rl6
        replace rl7 := keep hb_ rl7
        replace rl8 := keep hb_ rl8
        replace rl9 := keep hb_ rl9
        replace rg76 := keep hb_ rg76
        replace hw := Below.after hw hb_
        replace f4 := f4.below hb_
        clear hb_
        refine hK_ _ _ (⟨rl8, rl9⟩) ?_
        simp only [Act.put, List.getElem_toArray, List.getElem_cons_succ, List.getElem_cons_zero, List.setIfInBounds_toArray, List.set_cons_succ, List.set_cons_zero]
        clear hK_
        refine eH_one (k := 5) (fuel := 10) (by kernel_rfl) rfl (by kernel_rfl) (fun K_ hK_ => ?_)
        refine wp_call_ex (f := 49) (by kernel_rfl) (ex1e (c21.at _)) (fun v_ wq78 hX_ => ?_)
        obtain ⟨rfl, hb_⟩ := hX_
        replace rp0 := keep hb_ rp0
        replace rl3 := keep hb_ rl3
        replace rl6 := keep hb_ rl6
        replace rl7 := keep hb_ rl7
        replace rl8 := keep hb_ rl8
        replace rl9 := keep hb_ rl9
        replace rg76 := keep hb_ rg76
        replace hw := Below.after hw hb_
        replace f4 := f4.below hb_
        clear hb_
        refine hK_ _ _ (⟨rl8, rl9⟩) ?_
        simp only [Act.put, List.getElem_toArray, List.getElem_cons_succ, List.getElem_cons_zero, List.setIfInBounds_toArray, List.set_cons_succ, List.set_cons_zero]
        clear hK_
        refine eH_one (k := 6) (fuel := 9) (by kernel_rfl) rfl (by kernel_rfl) (fun K_ hK_ => ?_)
        refine wp_call_ex (f := 47) (by kernel_rfl) (ex1e (c19.at _)) (fun v_ wq79 hX_ => ?_)
        obtain ⟨rfl, hb_⟩ := hX_
        replace rp0 := keep hb_ rp0
        replace rl3 := keep hb_ rl3
        replace rl6 := keep hb_ rl6
        replace rl7 := keep hb_ rl7
        replace rl8 := keep hb_ rl8
        replace rl9 := keep hb_ rl9
        replace rg76 := keep hb_ rg76
        replace hw := Below.after hw hb_
        replace f4 := f4.below hb_
        clear hb_
        refine hK_ _ _ (⟨rl8, rl9⟩) ?_
        simp only [Act.put, List.getElem_toArray, List.getElem_cons_succ, List.getElem_cons_zero, List.setIfInBounds_toArray, List.set_cons_succ, List.set_cons_zero]
        clear hK_
        refine eH_one (k := 7) (fuel := 8) (by kernel_rfl) rfl (by kernel_rfl) (fun K_ hK_ => ?_)
        refine wp_call_ex (f := 53) (by kernel_rfl) (ex1e (c22.at _)) (fun v_ wq80 hX_ => ?_)
        obtain ⟨rfl, hb_⟩ := hX_
        replace rp0 := keep hb_ rp0
        replace rl3 := keep hb_ rl3
        replace rl6 := keep hb_ rl6
        replace rl7 := keep hb_ rl7
        replace rl8 := keep hb_ rl8
        replace rl9 := keep hb_ rl9
        replace rg76 := keep hb_ rg76
        replace hw := Below.after hw hb_
        replace f4 := f4.below hb_
        clear hb_
        refine hK_ _ _ (⟨rl8, rl9⟩) ?_
        simp only [Act.put, List.getElem_toArray, List.getElem_cons_succ, List.getElem_cons_zero, List.setIfInBounds_toArray, List.set_cons_succ, List.set_cons_zero]
        clear hK_
        refine eH_one (k := 8) (fuel := 7) (by kernel_rfl) rfl (by kernel_rfl) (fun K_ hK_ => ?_)
        refine wp_call_ex (f := 50) (by kernel_rfl) (ex1e (c23.at _)) (fun v_ wq81 hX_ => ?_)
        obtain ⟨rfl, hb_⟩ := hX_
        replace rp0 := keep hb_ rp0
        replace rl3 := keep hb_ rl3
        replace rl6 := keep hb_ rl6
        replace rl7 := keep hb_ rl7
        replace rl8 := keep hb_ rl8
        replace rl9 := keep hb_ rl9
        replace rg76 := keep hb_ rg76
        replace hw := Below.after hw hb_
        replace f4 := f4.below hb_
        clear hb_
        refine hK_ _ _ (⟨rl8, rl9⟩) ?_
        simp only [Act.put, List.getElem_toArray, List.getElem_cons_succ, List.getElem_cons_zero, List.setIfInBounds_toArray, List.set_cons_succ, List.set_cons_zero]
        clear hK_
        refine eH_one (k := 9) (fuel := 6) (by kernel_rfl) rfl (by kernel_rfl) (fun K_ hK_ => ?_)
        refine wp_call_ex (f := 49) (by kernel_rfl) (ex1e (c24.at _)) (fun v_ wq82 hX_ => ?_)
        obtain ⟨rfl, hb_⟩ := hX_
        replace rp0 := keep hb_ rp0
        replace rl3 := keep hb_ rl3
        replace rl6 := keep hb_ rl6
        replace rl7 := keep hb_ rl7
        replace rl8 := keep hb_ rl8
        replace rl9 := keep hb_ rl9
        replace rg76 := keep hb_ rg76
        replace hw := Below.after hw hb_
        replace f4 := f4.below hb_
        clear hb_
        refine hK_ _ _ (⟨rl8, rl9⟩) ?_
        simp only [Act.put, List.getElem_toArray, List.getElem_cons_succ, List.getElem_cons_zero, List.setIfInBounds_toArray, List.set_cons_succ, List.set_cons_zero]
        clear hK_
        refine eH_one (k := 10) (fuel := 5) (by kernel_rfl) rfl (by kernel_rfl) (fun K_ hK_ => ?_)
        refine wp_call_ex (f := 54) (by kernel_rfl) (ex1e (cR.at f4.1)) (fun v_ wq83 hX_ => ?_)
        obtain ⟨rfl, hb_⟩ := hX_
        replace rp0 := keep hb_ rp0
        replace rl3 := keep hb_ rl3
        replace rl6 := keep hb_ rl6
        replace rl7 := keep hb_ rl7
        replace rl8 := keep hb_ rl8
        replace rl9 := keep hb_ rl9
        replace rg76 := keep hb_ rg76
        replace hw := Below.after hw hb_
        replace f4 := f4.below hb_
        clear hb_
        refine hK_ _ _ (⟨rl8, rl9⟩) ?_
        simp only [Act.put, List.getElem_toArray, List.getElem_cons_succ, List.getElem_cons_zero, List.setIfInBounds_toArray, List.set_cons_succ, List.set_cons_zero]
        clear hK_
        refine wpAnyH_take (i := 11) (v := ?v84) rfl (by kernel_rfl) (by kernel_rfl) (by kernel_rfl) (fun _ _ _ h => h) (Or.inl ⟨by rfl, ?y84⟩) (⟨rl8, rl9⟩) ?r84
        case y84 =>
          intro w_ hS_
          go_simp
          try with_reducible rfl
        simp only [Act.put, List.getElem_toArray, List.getElem_cons_succ, List.getElem_cons_zero, List.setIfInBounds_toArray, List.set_cons_succ, List.set_cons_zero]
        refine wpAnyH_take (i := 12) (v := ?v85) rfl (by kernel_rfl) (by kernel_rfl) (by kernel_rfl) (fun _ _ _ h => h) (Or.inl ⟨by rfl, ?y85⟩) (⟨rl8, rl9⟩) ?r85
        case y85 =>
          intro w_ hS_
          go_simp
          try with_reducible rfl
        simp only [Act.put, List.getElem_toArray, List.getElem_cons_succ, List.getElem_cons_zero, List.setIfInBounds_toArray, List.set_cons_succ, List.set_cons_zero]
        refine wpAnyH_take (i := 13) (v := ?v86) rfl (by kernel_rfl) (by kernel_rfl) (by kernel_rfl) (fun _ _ _ h => h) (Or.inl ⟨by rfl, ?y86⟩) (⟨rl8, rl9⟩) ?r86
        case y86 =>
          intro w_ hS_
          go_simp
          try with_reducible rfl
        simp only [Act.put, List.getElem_toArray, List.getElem_cons_succ, List.getElem_cons_zero, List.setIfInBounds_toArray, List.set_cons_succ, List.set_cons_zero]
        refine eH_one (k := 15) (fuel := 1) (by kernel_rfl) rfl (by kernel_rfl) (fun K_ hK_ => ?_)
        refine wp_store_row 27 _ _ rfl (g76) s rfl rfl 27 _ rg76 hsx.info (num_zero.size.trans hsx.size.symm) hsx.one ?_
        replace rp0 := (setRow_other wq83 (g76) (w.heap.size) s (by first | assumption | omega)).trans rp0
        replace rl3 := (setRow_other wq83 (g76) (gp) s (by first | assumption | omega)).trans rl3
        replace rl6 := (setRow_other wq83 (g76) (gq) s (by first | assumption | omega)).trans rl6
        replace rl7 := (setRow_other wq83 (g76) (gy) s (by first | assumption | omega)).trans rl7
        replace rl8 := (setRow_other wq83 (g76) (gd) s (by first | assumption | omega)).trans rl8
        replace rl9 := (setRow_other wq83 (g76) (gs) s (by first | assumption | omega)).trans rl9
        replace rg76 := setRow_heap wq83 (g76) _ s _ _ rg76
        replace hw := below_setRow hw (show w.heap.size ≤ g76 by first | assumption | omega) s
        replace f4 := f4.setRow (show 4 < g76 by first | assumption | omega) s
        generalize wq83.setRow (g76) s = wq87 at *
        refine hK_ _ _ (⟨rl8, rl9⟩) ?_
        simp only [Act.put]
        clear hK_
        refine wpAnyH_take (i := 16) (v := ?v88) rfl (by kernel_rfl) (by kernel_rfl) (by kernel_rfl) (fun _ _ _ h => h) (Or.inl ⟨by rfl, ?y88⟩) (⟨rl8, rl9⟩) ?r88
        case y88 =>
          intro w_ hS_
          go_simp
          try with_reducible rfl
        simp only [Act.put, List.getElem_toArray, List.getElem_cons_succ, List.getElem_cons_zero, List.setIfInBounds_toArray, List.set_cons_succ, List.set_cons_zero]
        refine wpAnyH_done (by kernel_rfl) ?_ _
        refine NoPanic.normal ?_
        go_wp2_with (fail)
        go_meet
        case rel => exact ⟨g76, rfl, rfl, by omega, by omega, by omega, by omega, by omega, by omega, by omega, by omega, rp0, rl3, rl6, rl7, rl8, rl9, rg76, hw, f4⟩
    · skip
      refine e_world_op (.pointer (some ⟨wd1.heap.size, 0, none⟩)) (wd1.alloc (.cells #[.int .u64 0, .int .u64 0, .int .u64 0, .int .u64 0, .int .u64 0] 27)) (by kernel_rfl) ?_
      have hb_ : Below wd1.heap.size wd1 (wd1.alloc (.cells #[.int .u64 0, .int .u64 0, .int .u64 0, .int .u64 0, .int .u64 0] 27)) := (Below.refl _ _).alloc (Nat.le_refl _) _
      have sz_g89 := hw.size
      have rg89 := hp1_0 wd1 (.cells #[.int .u64 0, .int .u64 0, .int .u64 0, .int .u64 0, .int .u64 0] 27)
      have ltg89_0 := lt_of_row rp0
      have ltg89_1 := lt_of_row rl3
      have ltg89_2 := lt_of_row rl6
      have ltg89_3 := lt_of_row rl7
      have ltg89_4 := lt_of_row rl8
      have ltg89_5 := lt_of_row rl9
      have zg89 := f4.sz
      replace rp0 := keep hb_ rp0
      replace rl3 := keep hb_ rl3
      replace rl6 := keep hb_ rl6
      replace rl7 := keep hb_ rl7
      replace rl8 := keep hb_ rl8
      replace rl9 := keep hb_ rl9
      replace hw := Below.after hw hb_
      replace f4 := f4.below hb_
      clear hb_
      refine hK_ _ _ (⟨rl8, rl9⟩) ?_
      simp only [Act.put, List.getElem_toArray, List.getElem_cons_succ, List.getElem_cons_zero, List.setIfInBounds_toArray, List.set_cons_succ, List.set_cons_zero]
      clear hK_
      generalize (wd1.alloc (.cells #[.int .u64 0, .int .u64 0, .int .u64 0, .int .u64 0, .int .u64 0] 27)) = wq89 at *
      generalize wd1.heap.size = g89 at *
      refine eH_one (k := 1) (fuel := 12) (by kernel_rfl) rfl (by kernel_rfl) (fun K_ hK_ => ?_)
      refine wp_call_ex (f := 47) (by kernel_rfl) (ex1e (c19.at _)) (fun v_ wq90 hX_ => ?_)
      obtain ⟨rfl, hb_⟩ := hX_
      replace rp0 := keep hb_ rp0
      replace rl3 := keep hb_ rl3
      replace rl6 := keep hb_ rl6
      replace rl7 := keep hb_ rl7
      replace rl8 := keep hb_ rl8
      replace rl9 := keep hb_ rl9
      replace rg89 := keep hb_ rg89
      replace hw := Below.after hw hb_
      replace f4 := f4.below hb_
      clear hb_
      refine hK_ _ _ (⟨rl8, rl9⟩) ?_
      simp only [Act.put, List.getElem_toArray, List.getElem_cons_succ, List.getElem_cons_zero, List.setIfInBounds_toArray, List.set_cons_succ, List.set_cons_zero]
      clear hK_
      refine eH_one (k := 2) (fuel := 11) (by kernel_rfl) rfl (by kernel_rfl) (fun K_ hK_ => ?_)
      refine wp_call_ex (f := 52) (by kernel_rfl) (ex1e (c20.at f4.1.1)) (fun v_ wq91 hX_ => ?_)
      obtain ⟨rfl, hb_⟩ := hX_
      replace rp0 := keep hb_ rp0
      replace rl3 := keep hb_ rl3
      replace rl6 := keep hb_ rl6
      replace rl7 := keep hb_ rl7
      replace rl8 := keep hb_ rl8
      replace rl9 := keep hb_ rl9
      replace rg89 := keep hb_ rg89
      replace hw := Below.after hw hb_
      replace f4 := f4.below hb_
      clear hb_
      refine hK_ _ _ (⟨rl8, rl9⟩) ?_
      simp only [Act.put, List.getElem_toArray, List.getElem_cons_succ, List.getElem_cons_zero, List.setIfInBounds_toArray, List.set_cons_succ, List.set_cons_zero]
      clear hK_
      refine eH_one (k := 5) (fuel := 10) (by kernel_rfl) rfl (by kernel_rfl) (fun K_ hK_ => ?_)
      refine wp_call_ex (f := 49) (by kernel_rfl) (ex1e (c21.at _)) (fun v_ wq92 hX_ => ?_)
      obtain ⟨rfl, hb_⟩ := hX_
      replace rp0 := keep hb_ rp0
      replace rl3 := keep hb_ rl3
      replace rl6 := keep hb_ rl6
      replace rl7 := keep hb_ rl7
      replace rl8 := keep hb_ rl8
      replace rl9 := keep hb_ rl9
      replace rg89 := keep hb_ rg89
      replace hw := Below.after hw hb_
      replace f4 := f4.below hb_
      clear hb_
      refine hK_ _ _ (⟨rl8, rl9⟩) ?_
      simp only [Act.put, List.getElem_toArray, List.getElem_cons_succ, List.getElem_cons_zero, List.setIfInBounds_toArray, List.set_cons_succ, List.set_cons_zero]
      clear hK_
      refine eH_one (k := 6) (fuel := 9) (by kernel_rfl) rfl (by kernel_rfl) (fun K_ hK_ => ?_)
      refine wp_call_ex (f := 47) (by kernel_rfl) (ex1e (c19.at _)) (fun v_ wq93 hX_ => ?_)
      obtain ⟨rfl, hb_⟩ := hX_
      replace rp0 := keep hb_ rp0
      replace rl3 := keep hb_ rl3
      replace rl6 := keep hb_ rl6
      replace rl7 := keep hb_ rl7
      replace rl8 := keep hb_ rl8
      replace rl9 := keep hb_ rl9
      replace rg89 := keep hb_ rg89
      replace hw := Below.after hw hb_
      replace f4 := f4.below hb_
      clear hb_
      refine hK_ _ _ (⟨rl8, rl9⟩) ?_
      simp only [Act.put, List.getElem_toArray, List.getElem_cons_succ, List.getElem_cons_zero, List.setIfInBounds_toArray, List.set_cons_succ, List.set_cons_zero]
      clear hK_
      refine eH_one (k := 7) (fuel := 8) (by kernel_rfl) rfl (by kernel_rfl) (fun K_ hK_ => ?_)
      refine wp_call_ex (f := 53) (by kernel_rfl) (ex1e (c22.at _)) (fun v_ wq94 hX_ => ?_)
      obtain ⟨rfl, hb_⟩ := hX_
      replace rp0 := keep hb_ rp0
      replace rl3 := keep hb_ rl3
      replace rl6 := keep hb_ rl6
      replace rl7 := keep hb_ rl7
      replace rl8 := keep hb_ rl8
      replace rl9 := keep hb_ rl9
      replace rg89 := keep hb_ rg89
      replace hw := Below.after hw hb_
      replace f4 := f4.below hb_
      clear hb_
      refine hK_ _ _ (⟨rl8, rl9⟩) ?_
      simp only [Act.put, List.getElem_toArray, List.getElem_cons_succ, List.getElem_cons_zero, List.setIfInBounds_toArray, List.set_cons_succ, List.set_cons_zero]
      clear hK_
      refine eH_one (k := 8) (fuel := 7) (by kernel_rfl) rfl (by kernel_rfl) (fun K_ hK_ => ?_)
      refine wp_call_ex (f := 50) (by kernel_rfl) (ex1e (c23.at _)) (fun v_ wq95 hX_ => ?_)
      obtain ⟨rfl, hb_⟩ := hX_
      replace rp0 := keep hb_ rp0
      replace rl3 := keep hb_ rl3
      replace rl6 := keep hb_ rl6
      replace rl7 := keep hb_ rl7
      replace rl8 := keep hb_ rl8
      replace rl9 := keep hb_ rl9
      replace rg89 := keep hb_ rg89
      replace hw := Below.after hw hb_
      replace f4 := f4.below hb_
      clear hb_
      refine hK_ _ _ (⟨rl8, rl9⟩) ?_
      simp only [Act.put, List.getElem_toArray, List.getElem_cons_succ, List.getElem_cons_zero, List.setIfInBounds_toArray, List.set_cons_succ, List.set_cons_zero]
      clear hK_
      refine eH_one (k := 9) (fuel := 6) (by kernel_rfl) rfl (by kernel_rfl) (fun K_ hK_ => ?_)
      refine wp_call_ex (f := 49) (by kernel_rfl) (ex1e (c24.at _)) (fun v_ wq96 hX_ => ?_)
      obtain ⟨rfl, hb_⟩ := hX_
      replace rp0 := keep hb_ rp0
      replace rl3 := keep hb_ rl3
      replace rl6 := keep hb_ rl6
      replace rl7 := keep hb_ rl7
      replace rl8 := keep hb_ rl8
      replace rl9 := keep hb_ rl9
      replace rg89 := keep hb_ rg89
      replace hw := Below.after hw hb_
      replace f4 := f4.below hb_
      clear hb_
      refine hK_ _ _ (⟨rl8, rl9⟩) ?_
      simp only [Act.put, List.getElem_toArray, List.getElem_cons_succ, List.getElem_cons_zero, List.setIfInBounds_toArray, List.set_cons_succ, List.set_cons_zero]
      clear hK_
      refine eH_one (k := 10) (fuel := 5) (by kernel_rfl) rfl (by kernel_rfl) (fun K_ hK_ => ?_)
      refine wp_call_ex (f := 54) (by kernel_rfl) (ex1e (cR.at f4.1)) (fun v_ wq97 hX_ => ?_)
      obtain ⟨rfl, hb_⟩ := hX_
      replace rp0 := keep hb_ rp0
      replace rl3 := keep hb_ rl3
      replace rl6 := keep hb_ rl6
      replace rl7 := keep hb_ rl7
      replace rl8 := keep hb_ rl8
      replace rl9 := keep hb_ rl9
      replace rg89 := keep hb_ rg89
      replace hw := Below.after hw hb_
      replace f4 := f4.below hb_
      clear hb_
      refine hK_ _ _ (⟨rl8, rl9⟩) ?_
      simp only [Act.put, List.getElem_toArray, List.getElem_cons_succ, List.getElem_cons_zero, List.setIfInBounds_toArray, List.set_cons_succ, List.set_cons_zero]
      clear hK_
      refine wpAnyH_take (i := 11) (v := ?v98) rfl (by kernel_rfl) (by kernel_rfl) (by kernel_rfl) (fun _ _ _ h => h) (Or.inl ⟨by rfl, ?y98⟩) (⟨rl8, rl9⟩) ?r98
      case y98 =>
        intro w_ hS_
        go_simp
        try with_reducible rfl
      simp only [Act.put, List.getElem_toArray, List.getElem_cons_succ, List.getElem_cons_zero, List.setIfInBounds_toArray, List.set_cons_succ, List.set_cons_zero]
      refine wpAnyH_take (i := 12) (v := ?v99) rfl (by kernel_rfl) (by kernel_rfl) (by kernel_rfl) (fun _ _ _ h => h) (Or.inl ⟨by rfl, ?y99⟩) (⟨rl8, rl9⟩) ?r99
      case y99 =>
        intro w_ hS_
        go_simp
        try with_reducible rfl
      simp only [Act.put, List.getElem_toArray, List.getElem_cons_succ, List.getElem_cons_zero, List.setIfInBounds_toArray, List.set_cons_succ, List.set_cons_zero]
      refine wpAnyH_take (i := 13) (v := ?v100) rfl (by kernel_rfl) (by kernel_rfl) (by kernel_rfl) (fun _ _ _ h => h) (Or.inl ⟨by rfl, ?y100⟩) (⟨rl8, rl9⟩) ?r100
      case y100 =>
        intro w_ hS_
        go_simp
        try with_reducible rfl
      simp only [Act.put, List.getElem_toArray, List.getElem_cons_succ, List.getElem_cons_zero, List.setIfInBounds_toArray, List.set_cons_succ, List.set_cons_zero]
      refine eH_one (k := 15) (fuel := 1) (by kernel_rfl) rfl (by kernel_rfl) (fun K_ hK_ => ?_)
      refine wp_store_row 27 _ _ rfl (g89) s rfl rfl 27 _ rg89 hsx.info (num_zero.size.trans hsx.size.symm) hsx.one ?_
      replace rp0 := (setRow_other wq97 (g89) (w.heap.size) s (by first | assumption | omega)).trans rp0
      replace rl3 := (setRow_other wq97 (g89) (gp) s (by first | assumption | omega)).trans rl3
      replace rl6 := (setRow_other wq97 (g89) (gq) s (by first | assumption | omega)).trans rl6
      replace rl7 := (setRow_other wq97 (g89) (gy) s (by first | assumption | omega)).trans rl7
      replace rl8 := (setRow_other wq97 (g89) (gd) s (by first | assumption | omega)).trans rl8
      replace rl9 := (setRow_other wq97 (g89) (gs) s (by first | assumption | omega)).trans rl9
      replace rg89 := setRow_heap wq97 (g89) _ s _ _ rg89
      replace hw := below_setRow hw (show w.heap.size ≤ g89 by first | assumption | omega) s
      replace f4 := f4.setRow (show 4 < g89 by first | assumption | omega) s
      generalize wq97.setRow (g89) s = wq101 at *
      refine hK_ _ _ (⟨rl8, rl9⟩) ?_
      simp only [Act.put]
      clear hK_
      refine wpAnyH_take (i := 16) (v := ?v102) rfl (by kernel_rfl) (by kernel_rfl) (by kernel_rfl) (fun _ _ _ h => h) (Or.inl ⟨by rfl, ?y102⟩) (⟨rl8, rl9⟩) ?r102
      case y102 =>
        intro w_ hS_
        go_simp
        try with_reducible rfl
      simp only [Act.put, List.getElem_toArray, List.getElem_cons_succ, List.getElem_cons_zero, List.setIfInBounds_toArray, List.set_cons_succ, List.set_cons_zero]
      refine wpAnyH_done (by kernel_rfl) ?_ _
      refine NoPanic.normal ?_
      go_wp2_with (fail)
      go_meet
      case rel => exact ⟨g89, rfl, rfl, by omega, by omega, by omega, by omega, by omega, by omega, by omega, by omega, rp0, rl3, rl6, rl7, rl8, rl9, rg89, hw, f4⟩
  case rest =>
    obtain ⟨gx, rfl, rfl, xq0, xq1, xb0, xb1, xb2, xb3, xb4, xb5, rp0, rl3, rl6, rl7, rl8, rl9, rgx, hw, f4⟩ := hcut
    rcases hcase with ⟨rfl, rfl, hq⟩ | ⟨rfl, rfl, rfl, hq⟩ | ⟨rfl, rfl, rfl, rfl, hq, hq2⟩ | ⟨rfl, rfl, rfl, rfl, rfl, hq, hq2⟩ | ⟨rfl, rfl, rfl, rfl, rfl, hq⟩
    · skip
      subst hq
      have cN := a_IsNeutral ht
      rw [eqb_self] at cN
      go_wp2_with (fail)
      have Hrp0 := keepr rp0
      have Hrl3 := keepr rl3
      have Hrl6 := keepr rl6
      have Hrl7 := keepr rl7
      have Hrl8 := keepr rl8
      have Hrl9 := keepr rl9
      have Hrgx := keepr rgx
      refine wp_region_quiet_below (by kernel_rfl) (by kernel_rfl) ?_
      go_big_quiet_step (fail)
      go_big_quiet_step (fail)
      go_big_quiet_step (fail)
      go_big_quiet_step (fail)
      go_big_quiet_step (fail)
      go_big_quiet_step (fail)
      go_big_quiet_step (fail)
      go_big_quiet_step (fail)
      go_big_quiet_step (fail)
      go_big_quiet_step (fail)
      go_big_quiet_step (fail)
      go_big_quiet_step (fail)
      go_big_quiet_step (fail)
      go_big_quiet_step (fail)
      go_big_quiet_step (fail)
      go_big_quiet_step (fail)
      go_big_quiet_step (fail)
      go_big_quiet_step (fail)
      refine wpQuiet_nil ?_
      rintro _ ⟨p, rfl⟩
      have hb := below_regrown wc p.d p.os
      generalize grow (redrawn wc p.d) p.os = w26 at *
      replace rp0 := keep hb rp0
      replace rl3 := keep hb rl3
      replace rl6 := keep hb rl6
      replace rl7 := keep hb rl7
      replace rl8 := keep hb rl8
      replace rl9 := keep hb rl9
      replace rgx := keep hb rgx
      replace hw := Below.after hw hb
      replace f4 := f4.below hb
      clear hb
      clear Hrp0 Hrl3 Hrl6 Hrl7 Hrl8 Hrl9 Hrgx
      go_wp2_with (fail)
      have Hrp0 := keepr rp0
      have Hrl3 := keepr rl3
      have Hrl6 := keepr rl6
      have Hrl7 := keepr rl7
      have Hrl8 := keepr rl8
      have Hrl9 := keepr rl9
      have Hrgx := keepr rgx
      refine wp_region_quiet_below (by kernel_rfl) (by kernel_rfl) ?_
      go_big_quiet_step (fail)
      go_big_quiet_step (fail)
      go_big_quiet_step (fail)
      go_big_quiet_step (fail)
      go_big_quiet_step (fail)
      go_big_quiet_step (fail)
      go_big_quiet_step (fail)
      go_big_quiet_step (fail)
      go_big_quiet_step (fail)
      go_big_quiet_step (fail)
      go_big_quiet_step (fail)
      go_big_quiet_step (fail)
      refine wpQuiet_load_want rfl 29 _ rfl (gp) rfl 29 t (0, 0) _ Hrl3.out Tryd.underlying29 rfl ht.info ?_
      simp only [Act.put, List.setIfInBounds_toArray, List.set_cons_succ, List.set_cons_zero]
      go_big_quiet_step (exact cN.re)
      go_big_quiet_step (fail)
      go_big_quiet_step (fail)
      go_big_quiet_step (fail)
      refine wpQuiet_nil ?_
      rintro _ ⟨p, rfl⟩
      have hb := below_regrown w26 p.d p.os
      generalize grow (redrawn w26 p.d) p.os = w27 at *
      replace rp0 := keep hb rp0
      replace rl3 := keep hb rl3
      replace rl6 := keep hb rl6
      replace rl7 := keep hb rl7
      replace rl8 := keep hb rl8
      replace rl9 := keep hb rl9
      replace rgx := keep hb rgx
      replace hw := Below.after hw hb
      replace f4 := f4.below hb
      clear hb
      clear Hrp0 Hrl3 Hrl6 Hrl7 Hrl8 Hrl9 Hrgx
      go_wp2
      go_ret
      exact ⟨rfl, hw⟩
    · skip
      subst hq
      have cN := a_IsNeutral ht
      rw [eqb_self] at cN
      go_wp2_with (fail)
      have Hrp0 := keepr rp0
      have Hrl3 := keepr rl3
      have Hrl6 := keepr rl6
      have Hrl7 := keepr rl7
      have Hrl8 := keepr rl8
      have Hrl9 := keepr rl9
      have Hrgx := keepr rgx
      refine wp_region_quiet_below (by kernel_rfl) (by kernel_rfl) ?_
      go_big_quiet_step (fail)
      go_big_quiet_step (fail)
      go_big_quiet_step (fail)
      go_big_quiet_step (fail)
      refine wpQuiet_load_want rfl 27 _ rfl (gy) rfl 27 yr (0, 0) _ Hrl7.out Tryd.underlying27 rfl hy.info ?_
      simp only [Act.put, List.setIfInBounds_toArray, List.set_cons_succ, List.set_cons_zero]
      go_big_quiet_step (exact cB.re)
      refine wpQuiet_load_want rfl 23 _ rfl (gq) rfl 23 (kb M) (0, 0) _ Hrl6.out Tryd.underlying23 rfl hM.info ?_
      simp only [Act.put, List.setIfInBounds_toArray, List.set_cons_succ, List.set_cons_zero]
      go_big_quiet_step (fail)
      go_big_quiet_step (fail)
      go_big_quiet_step (fail)
      go_big_quiet_step (fail)
      go_big_quiet_step (fail)
      go_big_quiet_step (fail)
      go_big_quiet_step (fail)
      go_big_quiet_step (fail)
      go_big_quiet_step (fail)
      go_big_quiet_step (fail)
      go_big_quiet_step (fail)
      refine wpQuiet_nil ?_
      rintro _ ⟨p, rfl⟩
      have hb := below_regrown wc p.d p.os
      generalize grow (redrawn wc p.d) p.os = w29 at *
      replace rp0 := keep hb rp0
      replace rl3 := keep hb rl3
      replace rl6 := keep hb rl6
      replace rl7 := keep hb rl7
      replace rl8 := keep hb rl8
      replace rl9 := keep hb rl9
      replace rgx := keep hb rgx
      replace hw := Below.after hw hb
      replace f4 := f4.below hb
      clear hb
      clear Hrp0 Hrl3 Hrl6 Hrl7 Hrl8 Hrl9 Hrgx
      go_wp2_with (fail)
      have Hrp0 := keepr rp0
      have Hrl3 := keepr rl3
      have Hrl6 := keepr rl6
      have Hrl7 := keepr rl7
      have Hrl8 := keepr rl8
      have Hrl9 := keepr rl9
      have Hrgx := keepr rgx
      refine wp_region_quiet_below (by kernel_rfl) (by kernel_rfl) ?_
      go_big_quiet_step (fail)
      go_big_quiet_step (fail)
      go_big_quiet_step (fail)
      go_big_quiet_step (fail)
      go_big_quiet_step (fail)
      go_big_quiet_step (fail)
      go_big_quiet_step (fail)
      go_big_quiet_step (fail)
      go_big_quiet_step (fail)
      go_big_quiet_step (fail)
      go_big_quiet_step (fail)
      go_big_quiet_step (fail)
      refine wpQuiet_load_want rfl 29 _ rfl (gp) rfl 29 t (0, 0) _ Hrl3.out Tryd.underlying29 rfl ht.info ?_
      simp only [Act.put, List.setIfInBounds_toArray, List.set_cons_succ, List.set_cons_zero]
      go_big_quiet_step (exact cN.re)
      go_big_quiet_step (fail)
      go_big_quiet_step (fail)
      go_big_quiet_step (fail)
      refine wpQuiet_nil ?_
      rintro _ ⟨p, rfl⟩
      have hb := below_regrown w29 p.d p.os
      generalize grow (redrawn w29 p.d) p.os = w31 at *
      replace rp0 := keep hb rp0
      replace rl3 := keep hb rl3
      replace rl6 := keep hb rl6
      replace rl7 := keep hb rl7
      replace rl8 := keep hb rl8
      replace rl9 := keep hb rl9
      replace rgx := keep hb rgx
      replace hw := Below.after hw hb
      replace f4 := f4.below hb
      clear hb
      clear Hrp0 Hrl3 Hrl6 Hrl7 Hrl8 Hrl9 Hrgx
      go_wp2
      go_ret
      exact ⟨rfl, hw⟩
    · skip
      have cY := a_Bytes ht
      go_wp2_with (fail)
      have Hrp0 := keepr rp0
      have Hrl3 := keepr rl3
      have Hrl6 := keepr rl6
      have Hrl7 := keepr rl7
      have Hrl8 := keepr rl8
      have Hrl9 := keepr rl9
      have Hrgx := keepr rgx
      refine wp_region_quiet_below (by kernel_rfl) (by kernel_rfl) ?_
      go_big_quiet_step (fail)
      go_big_quiet_step (fail)
      go_big_quiet_step (fail)
      go_big_quiet_step (fail)
      refine wpQuiet_load_want rfl 27 _ rfl (gy) rfl 27 yr (0, 0) _ Hrl7.out Tryd.underlying27 rfl hy.info ?_
      simp only [Act.put, List.setIfInBounds_toArray, List.set_cons_succ, List.set_cons_zero]
      go_big_quiet_step (exact cB.re)
      refine wpQuiet_load_want rfl 23 _ rfl (gq) rfl 23 (kb M) (0, 0) _ Hrl6.out Tryd.underlying23 rfl hM.info ?_
      simp only [Act.put, List.setIfInBounds_toArray, List.set_cons_succ, List.set_cons_zero]
      go_big_quiet_step (fail)
      go_big_quiet_step (fail)
      go_big_quiet_step (fail)
      refine wpQuiet_load_want rfl 27 _ rfl (gx) rfl 27 s (0, 0) _ Hrgx.out Tryd.underlying27 rfl hsx.info ?_
      simp only [Act.put, List.setIfInBounds_toArray, List.set_cons_succ, List.set_cons_zero]
      go_big_quiet_step (exact cZ.re)
      go_big_quiet_step (fail)
      go_big_quiet_step (fail)
      go_big_quiet_step (fail)
      go_big_quiet_step (fail)
      go_big_quiet_step (fail)
      go_big_quiet_step (fail)
      refine wpQuiet_nil ?_
      rintro _ ⟨p, rfl⟩
      have hb := below_regrown wc p.d p.os
      generalize grow (redrawn wc p.d) p.os = w33 at *
      replace rp0 := keep hb rp0
      replace rl3 := keep hb rl3
      replace rl6 := keep hb rl6
      replace rl7 := keep hb rl7
      replace rl8 := keep hb rl8
      replace rl9 := keep hb rl9
      replace rgx := keep hb rgx
      replace hw := Below.after hw hb
      replace f4 := f4.below hb
      clear hb
      clear Hrp0 Hrl3 Hrl6 Hrl7 Hrl8 Hrl9 Hrgx
      go_wp2_with (fail)
      have Hrp0 := keepr rp0
      have Hrl3 := keepr rl3
      have Hrl6 := keepr rl6
      have Hrl7 := keepr rl7
      have Hrl8 := keepr rl8
      have Hrl9 := keepr rl9
      have Hrgx := keepr rgx
      refine wp_region_quiet_below (by kernel_rfl) (by kernel_rfl) ?_
      go_big_quiet_step (fail)
      go_big_quiet_step (fail)
      go_big_quiet_step (fail)
      refine wpQuiet_load_want rfl 29 _ rfl (gp) rfl 29 t (0, 0) _ Hrl3.out Tryd.underlying29 rfl ht.info ?_
      simp only [Act.put, List.setIfInBounds_toArray, List.set_cons_succ, List.set_cons_zero]
      go_big_quiet_step (exact cY.re)
      refine wpQuiet_load_want rfl 23 _ rfl (w.heap.size) rfl 23 (kb N) (0, 0) _ Hrp0.out Tryd.underlying23 rfl hN.info ?_
      simp only [Act.put, List.setIfInBounds_toArray, List.set_cons_succ, List.set_cons_zero]
      go_big_quiet_step (fail)
      go_big_quiet_step (fail)
      go_big_quiet_step (fail)
      go_big_quiet_step (fail)
      go_big_quiet_step (fail)
      go_big_quiet_step (fail)
      go_big_quiet_step (fail)
      go_big_quiet_step (fail)
      go_big_quiet_step (fail)
      go_big_quiet_step (fail)
      go_big_quiet_step (fail)
      refine wpQuiet_nil ?_
      rintro _ ⟨p, rfl⟩
      have hb := below_regrown w33 p.d p.os
      generalize grow (redrawn w33 p.d) p.os = w36 at *
      replace rp0 := keep hb rp0
      replace rl3 := keep hb rl3
      replace rl6 := keep hb rl6
      replace rl7 := keep hb rl7
      replace rl8 := keep hb rl8
      replace rl9 := keep hb rl9
      replace rgx := keep hb rgx
      replace hw := Below.after hw hb
      replace f4 := f4.below hb
      clear hb
      clear Hrp0 Hrl3 Hrl6 Hrl7 Hrl8 Hrl9 Hrgx
      go_wp2
      go_ret
      exact ⟨rfl, hw⟩
    · skip
      have cY := a_Bytes ht
      go_wp2_with (fail)
      have Hrp0 := keepr rp0
      have Hrl3 := keepr rl3
      have Hrl6 := keepr rl6
      have Hrl7 := keepr rl7
      have Hrl8 := keepr rl8
      have Hrl9 := keepr rl9
      have Hrgx := keepr rgx
      refine wp_region_quiet_below (by kernel_rfl) (by kernel_rfl) ?_
      go_big_quiet_step (fail)
      go_big_quiet_step (fail)
      go_big_quiet_step (fail)
      go_big_quiet_step (fail)
      refine wpQuiet_load_want rfl 27 _ rfl (gy) rfl 27 yr (0, 0) _ Hrl7.out Tryd.underlying27 rfl hy.info ?_
      simp only [Act.put, List.setIfInBounds_toArray, List.set_cons_succ, List.set_cons_zero]
      go_big_quiet_step (exact cB.re)
      refine wpQuiet_load_want rfl 23 _ rfl (gq) rfl 23 (kb M) (0, 0) _ Hrl6.out Tryd.underlying23 rfl hM.info ?_
      simp only [Act.put, List.setIfInBounds_toArray, List.set_cons_succ, List.set_cons_zero]
      go_big_quiet_step (fail)
      go_big_quiet_step (fail)
      go_big_quiet_step (fail)
      refine wpQuiet_load_want rfl 27 _ rfl (gx) rfl 27 s (0, 0) _ Hrgx.out Tryd.underlying27 rfl hsx.info ?_
      simp only [Act.put, List.setIfInBounds_toArray, List.set_cons_succ, List.set_cons_zero]
      go_big_quiet_step (exact cZ.re)
      go_big_quiet_step (fail)
      go_big_quiet_step (fail)
      go_big_quiet_step (fail)
      go_big_quiet_step (fail)
      go_big_quiet_step (fail)
      go_big_quiet_step (fail)
      refine wpQuiet_nil ?_
      rintro _ ⟨p, rfl⟩
      have hb := below_regrown wc p.d p.os
      generalize grow (redrawn wc p.d) p.os = w38 at *
      replace rp0 := keep hb rp0
      replace rl3 := keep hb rl3
      replace rl6 := keep hb rl6
      replace rl7 := keep hb rl7
      replace rl8 := keep hb rl8
      replace rl9 := keep hb rl9
      replace rgx := keep hb rgx
      replace hw := Below.after hw hb
      replace f4 := f4.below hb
      clear hb
      clear Hrp0 Hrl3 Hrl6 Hrl7 Hrl8 Hrl9 Hrgx
      go_wp2_with (fail)
      have Hrp0 := keepr rp0
      have Hrl3 := keepr rl3
      have Hrl6 := keepr rl6
      have Hrl7 := keepr rl7
      have Hrl8 := keepr rl8
      have Hrl9 := keepr rl9
      have Hrgx := keepr rgx
      refine wp_region_quiet_below (by kernel_rfl) (by kernel_rfl) ?_
      go_big_quiet_step (fail)
      go_big_quiet_step (fail)
      go_big_quiet_step (fail)
      refine wpQuiet_load_want rfl 29 _ rfl (gp) rfl 29 t (0, 0) _ Hrl3.out Tryd.underlying29 rfl ht.info ?_
      simp only [Act.put, List.setIfInBounds_toArray, List.set_cons_succ, List.set_cons_zero]
      go_big_quiet_step (exact cY.re)
      refine wpQuiet_load_want rfl 23 _ rfl (w.heap.size) rfl 23 (kb N) (0, 0) _ Hrp0.out Tryd.underlying23 rfl hN.info ?_
      simp only [Act.put, List.setIfInBounds_toArray, List.set_cons_succ, List.set_cons_zero]
      go_big_quiet_step (fail)
      go_big_quiet_step (fail)
      go_big_quiet_step (fail)
      go_big_quiet_step (fail)
      go_big_quiet_step (fail)
      go_big_quiet_step (fail)
      go_big_quiet_step (fail)
      go_big_quiet_step (fail)
      go_big_quiet_step (fail)
      go_big_quiet_step (fail)
      go_big_quiet_step (fail)
      refine wpQuiet_nil ?_
      rintro _ ⟨p, rfl⟩
      have hb := below_regrown w38 p.d p.os
      generalize grow (redrawn w38 p.d) p.os = w41 at *
      replace rp0 := keep hb rp0
      replace rl3 := keep hb rl3
      replace rl6 := keep hb rl6
      replace rl7 := keep hb rl7
      replace rl8 := keep hb rl8
      replace rl9 := keep hb rl9
      replace rgx := keep hb rgx
      replace hw := Below.after hw hb
      replace f4 := f4.below hb
      clear hb
      clear Hrp0 Hrl3 Hrl6 Hrl7 Hrl8 Hrl9 Hrgx
      go_wp2
      go_ret
      exact ⟨rfl, hw⟩
    · skip
      subst hq
      have cN := a_IsNeutral ht
      rw [eqb_self] at cN
      go_wp2_with (fail)
      have Hrp0 := keepr rp0
      have Hrl3 := keepr rl3
      have Hrl6 := keepr rl6
      have Hrl7 := keepr rl7
      have Hrl8 := keepr rl8
      have Hrl9 := keepr rl9
      have Hrgx := keepr rgx
      refine wp_region_quiet_below (by kernel_rfl) (by kernel_rfl) ?_
      go_big_quiet_step (fail)
      go_big_quiet_step (fail)
      go_big_quiet_step (fail)
      go_big_quiet_step (fail)
      refine wpQuiet_load_want rfl 27 _ rfl (gy) rfl 27 yr (0, 0) _ Hrl7.out Tryd.underlying27 rfl hy.info ?_
      simp only [Act.put, List.setIfInBounds_toArray, List.set_cons_succ, List.set_cons_zero]
      go_big_quiet_step (exact cB.re)
      refine wpQuiet_load_want rfl 23 _ rfl (gq) rfl 23 (kb M) (0, 0) _ Hrl6.out Tryd.underlying23 rfl hM.info ?_
      simp only [Act.put, List.setIfInBounds_toArray, List.set_cons_succ, List.set_cons_zero]
      go_big_quiet_step (fail)
      go_big_quiet_step (fail)
      go_big_quiet_step (fail)
      refine wpQuiet_load_want rfl 27 _ rfl (gx) rfl 27 s (0, 0) _ Hrgx.out Tryd.underlying27 rfl hsx.info ?_
      simp only [Act.put, List.setIfInBounds_toArray, List.set_cons_succ, List.set_cons_zero]
      go_big_quiet_step (exact cZ.re)
      go_big_quiet_step (fail)
      go_big_quiet_step (fail)
      go_big_quiet_step (fail)
      go_big_quiet_step (fail)
      go_big_quiet_step (fail)
      go_big_quiet_step (fail)
      refine wpQuiet_nil ?_
      rintro _ ⟨p, rfl⟩
      have hb := below_regrown wc p.d p.os
      generalize grow (redrawn wc p.d) p.os = w43 at *
      replace rp0 := keep hb rp0
      replace rl3 := keep hb rl3
      replace rl6 := keep hb rl6
      replace rl7 := keep hb rl7
      replace rl8 := keep hb rl8
      replace rl9 := keep hb rl9
      replace rgx := keep hb rgx
      replace hw := Below.after hw hb
      replace f4 := f4.below hb
      clear hb
      clear Hrp0 Hrl3 Hrl6 Hrl7 Hrl8 Hrl9 Hrgx
      go_wp2_with (fail)
      have Hrp0 := keepr rp0
      have Hrl3 := keepr rl3
      have Hrl6 := keepr rl6
      have Hrl7 := keepr rl7
      have Hrl8 := keepr rl8
      have Hrl9 := keepr rl9
      have Hrgx := keepr rgx
      refine wp_region_quiet_below (by kernel_rfl) (by kernel_rfl) ?_
      go_big_quiet_step (fail)
      go_big_quiet_step (fail)
      go_big_quiet_step (fail)
      go_big_quiet_step (fail)
      go_big_quiet_step (fail)
      go_big_quiet_step (fail)
      go_big_quiet_step (fail)
      go_big_quiet_step (fail)
      go_big_quiet_step (fail)
      go_big_quiet_step (fail)
      go_big_quiet_step (fail)
      go_big_quiet_step (fail)
      refine wpQuiet_load_want rfl 29 _ rfl (gp) rfl 29 t (0, 0) _ Hrl3.out Tryd.underlying29 rfl ht.info ?_
      simp only [Act.put, List.setIfInBounds_toArray, List.set_cons_succ, List.set_cons_zero]
      go_big_quiet_step (exact cN.re)
      go_big_quiet_step (fail)
      go_big_quiet_step (fail)
      go_big_quiet_step (fail)
      refine wpQuiet_nil ?_
      rintro _ ⟨p, rfl⟩
      have hb := below_regrown w43 p.d p.os
      generalize grow (redrawn w43 p.d) p.os = w46 at *
      replace rp0 := keep hb rp0
      replace rl3 := keep hb rl3
      replace rl6 := keep hb rl6
      replace rl7 := keep hb rl7
      replace rl8 := keep hb rl8
      replace rl9 := keep hb rl9
      replace rgx := keep hb rgx
      replace hw := Below.after hw hb
      replace f4 := f4.below hb
      clear hb
      clear Hrp0 Hrl3 Hrl6 Hrl7 Hrl8 Hrl9 Hrgx
      go_wp2
      go_ret
      exact ⟨rfl, hw⟩

theorem points_any {k : Array Value} {N : Int} (h : KeyOf k N) (w : World) (hF : Edw w) : Calls Tryd.prog 7 #[.agg k] w fun e w' => e = .returned (.bool true) ∧ Below w.heap.size w w' := by
  have hN : KeyOf (kb N) N := by rw [← key_is h]; exact h
  rw [key_is h]
  have hNb := h.bd
  have htop := key_top hN
  have hM : KeyOf (kb (N % 57896044618658097711785492504343953926634992332820282019728792003956564819968)) (N % 57896044618658097711785492504343953926634992332820282019728792003956564819968) := kb_key _ (by omega) (by omega)
  obtain ⟨yr, hy0, cF⟩ := a_from hM
  have hy : NumOf yr (N % 57896044618658097711785492504343953926634992332820282019728792003956564819968) := hy0.congr (by rw [Int.emod_emod])
  obtain ⟨t, ht, cP⟩ := a_Parse hN
  have hd : decide (128 ≤ byt N 31) = decide (57896044618658097711785492504343953926634992332820282019728792003956564819968 ≤ N) := by rw [htop.1]; apply Bool.eq_iff_iff.2; simp only [decide_eq_true_iff]; omega
  refine points_aux (low := decide (N % 57896044618658097711785492504343953926634992332820282019728792003956564819968 < prm)) hN hM (kb_mod _) (hide (by rw [htop.2 (N / 452312848583266388373324160190187140051835877600158453279131187530910662656 % 128) (by omega)]; congr 1; omega)) (hide (by rw [htop.1, Int.tmod_eq_emod_of_nonneg (by omega)])) hd rfl rfl (fun W => ?_) ?_ ht cP hy cF (a_bytes hy) w hF
  · rw [kb_equal _ _ (kb_mod _).bd.1 (kb_mod _).bd.2 hM.bd.1 hM.bd.2]
    congr 1
    apply Bool.eq_iff_iff.2
    simp only [decide_eq_true_iff]
    exact ⟨fun e => by rw [← e]; exact Int.emod_lt_of_pos _ prm_pos, fun e => Int.emod_eq_of_lt (by omega) e⟩
  · have hyes : ∀ (_ : N % 57896044618658097711785492504343953926634992332820282019728792003956564819968 < prm) (_ : has (N % 57896044618658097711785492504343953926634992332820282019728792003956564819968) (decide (57896044618658097711785492504343953926634992332820282019728792003956564819968 ≤ N)) = true), pe N = 0 ∧ ∀ W, (Op.equalIn 10000 23 (.agg (kb (pb (pp N)))) (.agg (kb N))).run Tryd.prog W = .ok true W := fun hl hh => by
      obtain ⟨q1, q2, q3⟩ := pp_yes hNb.1 hNb.2 hl hh
      rcases pe_or N with ⟨P, e1, e2, e3⟩ | ⟨e1, e2, e3⟩
      · refine ⟨q1, fun W => ?_⟩
        rw [e2, e1, kb_equal _ _ hNb.1 hNb.2 hNb.1 hNb.2]; simp
      · rw [q1] at e3; exact absurd e3 (by decide)
    have hno : (decide (N % 57896044618658097711785492504343953926634992332820282019728792003956564819968 < prm) && has (N % 57896044618658097711785492504343953926634992332820282019728792003956564819968) (decide (57896044618658097711785492504343953926634992332820282019728792003956564819968 ≤ N))) = false → pe N = 190 ∧ pp N = ze := pp_no hNb.1 hNb.2
    unfold has at hyes hno
    by_cases hO : rok (qy (N % 57896044618658097711785492504343953926634992332820282019728792003956564819968)) = true
    · by_cases hl : N % 57896044618658097711785492504343953926634992332820282019728792003956564819968 < prm
      · by_cases hZ : rval (qy (N % 57896044618658097711785492504343953926634992332820282019728792003956564819968)) % prm = 0
        · by_cases ho : 57896044618658097711785492504343953926634992332820282019728792003956564819968 ≤ N
          · obtain ⟨a, b⟩ := hno (by rw [hO, decide_eq_true hZ, decide_eq_true ho]; simp)
            exact .inr (.inr (.inr (.inr ⟨hO, decide_eq_true hl, decide_eq_true hZ, decide_eq_true ho, a, b⟩)))
          · obtain ⟨a, b⟩ := hyes hl (by rw [hO, decide_eq_true hZ, decide_eq_false ho]; rfl)
            exact .inr (.inr (.inr (.inl ⟨hO, decide_eq_true hl, decide_eq_true hZ, decide_eq_false ho, a, trivial, b⟩)))
        · obtain ⟨a, b⟩ := hyes hl (by rw [hO, decide_eq_false hZ]; rfl)
          exact .inr (.inr (.inl ⟨hO, decide_eq_true hl, decide_eq_false hZ, a, trivial, b⟩))
      · obtain ⟨a, b⟩ := hno (by rw [decide_eq_false hl]; rfl)
        exact .inr (.inl ⟨hO, decide_eq_false hl, a, b⟩)
    · rw [Bool.not_eq_true] at hO
      obtain ⟨a, b⟩ := hno (by rw [hO]; simp)
      exact .inl ⟨hO, a, b⟩

end Go.Proofs.YtgfhoabgbgddbaaDoor

