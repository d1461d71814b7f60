import Derived.Test.YtgfhoabgbgddbaaDoorProg
import Derived.WalkKit
import Derived.WalkSpells
import Derived.WalkLawsBesides
import Derived.Lib.QuietBelow
import Derived.BigQuiet
import Derived.Test.YtgfhoabgbgddbaaDoorKa
import Derived.Test.YtgfhoabgbgddbaaDoorDwg
namespace Go.Proofs.YtgfhoabgbgddbaaDoor
set_option maxRecDepth 100000
open Go.RowKit Go.Sort
attribute [local go_sem] setCell_drewN alloc_drewN

set_option maxRecDepth 100000 in
set_option maxHeartbeats 8000000 in
theorem group_any {ka kb' kc : Array Value} {A B C : Int} (ha : KeyOf ka A) (hb_ : KeyOf kb' B) (hc : KeyOf kc C) (w : World) (hF : Edw w) : Calls Tryd.prog 6 #[.agg ka, .agg kb', .agg kc] w fun e w' => e = .returned (.bool true) ∧ Below w.heap.size w w' := by
  have c1 := a_lives2
  obtain ⟨x3, h3, c3⟩ := a_Parse ha
  obtain ⟨x5, h5, c5⟩ := a_Parse hb_
  obtain ⟨x7, h7, c7⟩ := a_Parse hc
  obtain ⟨x10, h10, c10⟩ := a_Add h3 h5
  obtain ⟨x11, h11, c11⟩ := a_Add h5 h3
  have c12 := a_samep h10 h11 (pl_comm _ _)
  obtain ⟨x13, h13, c13⟩ := a_Add h10 h7
  obtain ⟨x14, h14, c14⟩ := a_Add h5 h7
  obtain ⟨x15, h15, c15⟩ := a_Add h3 h14
  have c16 := a_samep h13 h15 (pl_assoc _ _ _)
  obtain ⟨x17, h17, c17⟩ := a_Add h3 pt_zero
  have c18 := a_samep h17 h3 (pl_ze _)
  obtain ⟨x20, h20, c20⟩ := a_Neg h3
  obtain ⟨x21, h21, c21⟩ := a_Add h3 h20
  have c22 := a_IsNeutral h21
  rw [show eqb (pl (pp A) (ng (pp A))) ze = true from (by rw [pl_ng]; exact eqb_self _)] at c22
  obtain ⟨x23, h23, c23⟩ := a_Sub h3 h5
  obtain ⟨x24, h24, c24⟩ := a_Neg h5
  obtain ⟨x25, h25, c25⟩ := a_Add h3 h24
  have c26 := a_samep h23 h25 rfl
  obtain ⟨x27, h27, c27⟩ := a_Double h3
  obtain ⟨x28, h28, c28⟩ := a_Add h3 h3
  have c29 := a_samep h27 h28 rfl
  obtain ⟨x30, h30, c30⟩ := a_Add h23 h5
  have c31 := a_samep h30 h3 (pl_back _ _)
  generalize pp A = P at *
  generalize pp B = Q at *
  generalize pp C = R at *
  generalize pe A = eA at *
  generalize pe B = eB at *
  generalize pe C = eC at *
  have rp0 : (((w.alloc (.cells ka 23)).alloc (.cells kb' 23)).alloc (.cells kc 23)).heap[w.heap.size]? = some (.cells ka 23 (0, 0)) := hp3_0 w _ _ _
  have rp1 : (((w.alloc (.cells ka 23)).alloc (.cells kb' 23)).alloc (.cells kc 23)).heap[w.heap.size + 1]? = some (.cells kb' 23 (0, 0)) := hp3_1 w _ _ _
  have rp2 : (((w.alloc (.cells ka 23)).alloc (.cells kb' 23)).alloc (.cells kc 23)).heap[w.heap.size + 1 + 1]? = some (.cells kc 23 (0, 0)) := hp3_2 w _ _ _
  have hw : Below w.heap.size w (((w.alloc (.cells ka 23)).alloc (.cells kb' 23)).alloc (.cells kc 23)) := ((((Below.refl _ _).alloc (Nat.le_refl _) _).alloc (by simp) _).alloc (by simp; omega) _)
  have hz0 := hF.sz
  have f4 : Edw (((w.alloc (.cells ka 23)).alloc (.cells kb' 23)).alloc (.cells kc 23)) := (((hF.alloc _).alloc _).alloc _)
  go_enter Tryd.func6, Tryd.ntmps6
  iterate 15 go_step
  generalize (((w.alloc (.cells ka 23)).alloc (.cells kb' 23)).alloc (.cells kc 23)) = w0 at *
  go_wp2_with (first | (refine wpList_load_want rfl 23 _ rfl (w.heap.size) rfl 23 ka (0, 0) _ rp0 Tryd.underlying23 rfl ha.info ?_) | (refine wpList_load_want rfl 23 _ rfl (w.heap.size + 1) rfl 23 kb' (0, 0) _ rp1 Tryd.underlying23 rfl hb_.info ?_) | (refine wpList_load_want rfl 23 _ rfl (w.heap.size + 1 + 1) rfl 23 kc (0, 0) _ rp2 Tryd.underlying23 rfl hc.info ?_) | fail)
  refine (c1.at f4).mono ?_
  rintro e w2 ⟨rfl, hb⟩
  replace rp0 := keep hb rp0
  replace rp1 := keep hb rp1
  replace rp2 := keep hb rp2
  replace hw := Below.after hw hb
  replace f4 := f4.below hb
  clear hb
  go_wp2_with (first | (refine wpList_load_want rfl 23 _ rfl (w.heap.size) rfl 23 ka (0, 0) _ rp0 Tryd.underlying23 rfl ha.info ?_) | (refine wpList_load_want rfl 23 _ rfl (w.heap.size + 1) rfl 23 kb' (0, 0) _ rp1 Tryd.underlying23 rfl hb_.info ?_) | (refine wpList_load_want rfl 23 _ rfl (w.heap.size + 1 + 1) rfl 23 kc (0, 0) _ rp2 Tryd.underlying23 rfl hc.info ?_) | fail)
  refine (c3.at f4.1).mono ?_
  rintro e w4 ⟨rfl, hb⟩
  replace rp0 := keep hb rp0
  replace rp1 := keep hb rp1
  replace rp2 := keep hb rp2
  replace hw := Below.after hw hb
  replace f4 := f4.below hb
  clear hb
  go_wp2_with (first | (refine wpList_store_row rfl 29 _ _ rfl (w4.heap.size) x3 rfl rfl 29 #[.int .u64 0, .int .u64 0, .int .u64 0, .int .u64 0, .int .u64 0, .int .u64 0, .int .u64 0, .int .u64 0, .int .u64 0, .int .u64 0, .int .u64 0, .int .u64 0, .int .u64 0, .int .u64 0, .int .u64 0, .int .u64 0, .int .u64 0, .int .u64 0, .int .u64 0, .int .u64 0] (hp1_0 w4 _) h3.info (h3.size).symm h3.one ?_; rw [setRow_alloc_new _ _ _ _ _ _ (by simp)]; refine wpList_stay ?_) | fail)
  unfold WpStay
  try simp only [Act.put]
  have rl7 : (w4.alloc (.cells x3 29)).heap[w4.heap.size]? = some (.cells x3 29 (0, 0)) := hp1_0 w4 _
  have hb : Below w4.heap.size w4 (w4.alloc (.cells x3 29)) := ((Below.refl _ _).alloc (Nat.le_refl _) _)
  generalize (w4.alloc (.cells x3 29)) = wp0 at *
  have ygp0_0 := lt_of_row rp0
  have ygp0_1 := lt_of_row rp1
  have ygp0_2 := lt_of_row rp2
  have ygp0 := hw.size
  have zgp0 := f4.sz
  replace rp0 := keep hb rp0
  replace rp1 := keep hb rp1
  replace rp2 := keep hb rp2
  replace hw := Below.after hw hb
  replace f4 := f4.below hb
  clear hb
  generalize w4.heap.size = gp0 at *
  clear w4
  go_wp2_with (first | (refine wpList_load_want rfl 23 _ rfl (w.heap.size) rfl 23 ka (0, 0) _ rp0 Tryd.underlying23 rfl ha.info ?_) | (refine wpList_load_want rfl 23 _ rfl (w.heap.size + 1) rfl 23 kb' (0, 0) _ rp1 Tryd.underlying23 rfl hb_.info ?_) | (refine wpList_load_want rfl 23 _ rfl (w.heap.size + 1 + 1) rfl 23 kc (0, 0) _ rp2 Tryd.underlying23 rfl hc.info ?_) | (refine wpList_load_want rfl 29 _ rfl (gp0) rfl 29 x3 (0, 0) _ rl7 Tryd.underlying29 rfl h3.info ?_) | fail)
  refine (c5.at f4.1).mono ?_
  rintro e w6 ⟨rfl, hb⟩
  replace rp0 := keep hb rp0
  replace rp1 := keep hb rp1
  replace rp2 := keep hb rp2
  replace rl7 := keep hb rl7
  replace hw := Below.after hw hb
  replace f4 := f4.below hb
  clear hb
  go_wp2_with (first | (refine wpList_store_row rfl 29 _ _ rfl (w6.heap.size) x5 rfl rfl 29 #[.int .u64 0, .int .u64 0, .int .u64 0, .int .u64 0, .int .u64 0, .int .u64 0, .int .u64 0, .int .u64 0, .int .u64 0, .int .u64 0, .int .u64 0, .int .u64 0, .int .u64 0, .int .u64 0, .int .u64 0, .int .u64 0, .int .u64 0, .int .u64 0, .int .u64 0, .int .u64 0] (hp1_0 w6 _) h5.info (h5.size).symm h5.one ?_; rw [setRow_alloc_new _ _ _ _ _ _ (by simp)]; refine wpList_stay ?_) | fail)
  unfold WpStay
  try simp only [Act.put]
  have rl9 : (w6.alloc (.cells x5 29)).heap[w6.heap.size]? = some (.cells x5 29 (0, 0)) := hp1_0 w6 _
  have hb : Below w6.heap.size w6 (w6.alloc (.cells x5 29)) := ((Below.refl _ _).alloc (Nat.le_refl _) _)
  generalize (w6.alloc (.cells x5 29)) = wp1 at *
  have ygp1_0 := lt_of_row rp0
  have ygp1_1 := lt_of_row rp1
  have ygp1_2 := lt_of_row rp2
  have ygp1_3 := lt_of_row rl7
  have ygp1 := hw.size
  have zgp1 := f4.sz
  replace rp0 := keep hb rp0
  replace rp1 := keep hb rp1
  replace rp2 := keep hb rp2
  replace rl7 := keep hb rl7
  replace hw := Below.after hw hb
  replace f4 := f4.below hb
  clear hb
  generalize w6.heap.size = gp1 at *
  clear w6
  go_wp2_with (first | (refine wpList_load_want rfl 23 _ rfl (w.heap.size) rfl 23 ka (0, 0) _ rp0 Tryd.underlying23 rfl ha.info ?_) | (refine wpList_load_want rfl 23 _ rfl (w.heap.size + 1) rfl 23 kb' (0, 0) _ rp1 Tryd.underlying23 rfl hb_.info ?_) | (refine wpList_load_want rfl 23 _ rfl (w.heap.size + 1 + 1) rfl 23 kc (0, 0) _ rp2 Tryd.underlying23 rfl hc.info ?_) | (refine wpList_load_want rfl 29 _ rfl (gp0) rfl 29 x3 (0, 0) _ rl7 Tryd.underlying29 rfl h3.info ?_) | (refine wpList_load_want rfl 29 _ rfl (gp1) rfl 29 x5 (0, 0) _ rl9 Tryd.underlying29 rfl h5.info ?_) | fail)
  refine (c7.at f4.1).mono ?_
  rintro e w8 ⟨rfl, hb⟩
  replace rp0 := keep hb rp0
  replace rp1 := keep hb rp1
  replace rp2 := keep hb rp2
  replace rl7 := keep hb rl7
  replace rl9 := keep hb rl9
  replace hw := Below.after hw hb
  replace f4 := f4.below hb
  clear hb
  go_wp2_with (first | (refine wpList_store_row rfl 29 _ _ rfl (w8.heap.size) x7 rfl rfl 29 #[.int .u64 0, .int .u64 0, .int .u64 0, .int .u64 0, .int .u64 0, .int .u64 0, .int .u64 0, .int .u64 0, .int .u64 0, .int .u64 0, .int .u64 0, .int .u64 0, .int .u64 0, .int .u64 0, .int .u64 0, .int .u64 0, .int .u64 0, .int .u64 0, .int .u64 0, .int .u64 0] (hp1_0 w8 _) h7.info (h7.size).symm h7.one ?_; rw [setRow_alloc_new _ _ _ _ _ _ (by simp)]; refine wpList_stay ?_) | fail)
  unfold WpStay
  try simp only [Act.put]
  have rl11 : (w8.alloc (.cells x7 29)).heap[w8.heap.size]? = some (.cells x7 29 (0, 0)) := hp1_0 w8 _
  have hb : Below w8.heap.size w8 (w8.alloc (.cells x7 29)) := ((Below.refl _ _).alloc (Nat.le_refl _) _)
  generalize (w8.alloc (.cells x7 29)) = wp2 at *
  have ygp2_0 := lt_of_row rp0
  have ygp2_1 := lt_of_row rp1
  have ygp2_2 := lt_of_row rp2
  have ygp2_3 := lt_of_row rl7
  have ygp2_4 := lt_of_row rl9
  have ygp2 := hw.size
  have zgp2 := f4.sz
  replace rp0 := keep hb rp0
  replace rp1 := keep hb rp1
  replace rp2 := keep hb rp2
  replace rl7 := keep hb rl7
  replace rl9 := keep hb rl9
  replace hw := Below.after hw hb
  replace f4 := f4.below hb
  clear hb
  generalize w8.heap.size = gp2 at *
  clear w8
  go_wp2_with (first | (refine wpList_store_row rfl 29 _ _ rfl (wp2.heap.size) #[.int .u64 0, .int .u64 0, .int .u64 0, .int .u64 0, .int .u64 0, .int .u64 0, .int .u64 0, .int .u64 0, .int .u64 0, .int .u64 0, .int .u64 0, .int .u64 0, .int .u64 0, .int .u64 0, .int .u64 0, .int .u64 0, .int .u64 0, .int .u64 0, .int .u64 0, .int .u64 0] rfl rfl 29 #[.int .u64 0, .int .u64 0, .int .u64 0, .int .u64 0, .int .u64 0, .int .u64 0, .int .u64 0, .int .u64 0, .int .u64 0, .int .u64 0, .int .u64 0, .int .u64 0, .int .u64 0, .int .u64 0, .int .u64 0, .int .u64 0, .int .u64 0, .int .u64 0, .int .u64 0, .int .u64 0] (hp1_0 wp2 _) pt_zero.info (pt_zero.size).symm pt_zero.one ?_; rw [setRow_alloc_new _ _ _ _ _ _ (by simp)]; refine wpList_stay ?_) | (refine wpList_build_as rfl 29 _ rfl [] rfl #[.int .u64 0, .int .u64 0, .int .u64 0, .int .u64 0, .int .u64 0, .int .u64 0, .int .u64 0, .int .u64 0, .int .u64 0, .int .u64 0, .int .u64 0, .int .u64 0, .int .u64 0, .int .u64 0, .int .u64 0, .int .u64 0, .int .u64 0, .int .u64 0, .int .u64 0, .int .u64 0] (by kernel_rfl) ?_) | fail)
  unfold WpStay
  try simp only [Act.put]
  have rl13 : (wp2.alloc (.cells #[.int .u64 0, .int .u64 0, .int .u64 0, .int .u64 0, .int .u64 0, .int .u64 0, .int .u64 0, .int .u64 0, .int .u64 0, .int .u64 0, .int .u64 0, .int .u64 0, .int .u64 0, .int .u64 0, .int .u64 0, .int .u64 0, .int .u64 0, .int .u64 0, .int .u64 0, .int .u64 0] 29)).heap[wp2.heap.size]? = some (.cells #[.int .u64 0, .int .u64 0, .int .u64 0, .int .u64 0, .int .u64 0, .int .u64 0, .int .u64 0, .int .u64 0, .int .u64 0, .int .u64 0, .int .u64 0, .int .u64 0, .int .u64 0, .int .u64 0, .int .u64 0, .int .u64 0, .int .u64 0, .int .u64 0, .int .u64 0, .int .u64 0] 29 (0, 0)) := hp1_0 wp2 _
  have hb : Below wp2.heap.size wp2 (wp2.alloc (.cells #[.int .u64 0, .int .u64 0, .int .u64 0, .int .u64 0, .int .u64 0, .int .u64 0, .int .u64 0, .int .u64 0, .int .u64 0, .int .u64 0, .int .u64 0, .int .u64 0, .int .u64 0, .int .u64 0, .int .u64 0, .int .u64 0, .int .u64 0, .int .u64 0, .int .u64 0, .int .u64 0] 29)) := ((Below.refl _ _).alloc (Nat.le_refl _) _)
  generalize (wp2.alloc (.cells #[.int .u64 0, .int .u64 0, .int .u64 0, .int .u64 0, .int .u64 0, .int .u64 0, .int .u64 0, .int .u64 0, .int .u64 0, .int .u64 0, .int .u64 0, .int .u64 0, .int .u64 0, .int .u64 0, .int .u64 0, .int .u64 0, .int .u64 0, .int .u64 0, .int .u64 0, .int .u64 0] 29)) = wz at *
  have ygz_0 := lt_of_row rp0
  have ygz_1 := lt_of_row rp1
  have ygz_2 := lt_of_row rp2
  have ygz_3 := lt_of_row rl7
  have ygz_4 := lt_of_row rl9
  have ygz_5 := lt_of_row rl11
  have ygz := hw.size
  have zgz := f4.sz
  replace rp0 := keep hb rp0
  replace rp1 := keep hb rp1
  replace rp2 := keep hb rp2
  replace rl7 := keep hb rl7
  replace rl9 := keep hb rl9
  replace rl11 := keep hb rl11
  replace hw := Below.after hw hb
  replace f4 := f4.below hb
  clear hb
  generalize wp2.heap.size = gz at *
  clear wp2
  go_wp2_with (fail)
  have Hrp0 := keepr rp0
  have Hrp1 := keepr rp1
  have Hrp2 := keepr rp2
  have Hrl7 := keepr rl7
  have Hrl9 := keepr rl9
  have Hrl11 := keepr rl11
  have Hrl13 := keepr rl13
  refine wp_region_quiet_below (by kernel_rfl) (by kernel_rfl) ?_
  refine wpQuiet_load_row rfl 29 _ rfl (gp0) rfl 29 x3 (0, 0) _ Hrl7.out Tryd.underlying29 rfl h3.info ?_
  simp only [Act.put, List.setIfInBounds_toArray, List.set_cons_succ, List.set_cons_zero]
  refine wpQuiet_load_row rfl 29 _ rfl (gp1) rfl 29 x5 (0, 0) _ Hrl9.out Tryd.underlying29 rfl h5.info ?_
  simp only [Act.put, List.setIfInBounds_toArray, List.set_cons_succ, List.set_cons_zero]
  go_big_quiet_step (exact c10.re f4.1.1)
  refine wpQuiet_load_row rfl 29 _ rfl (gp1) rfl 29 x5 (0, 0) _ Hrl9.out Tryd.underlying29 rfl h5.info ?_
  simp only [Act.put, List.setIfInBounds_toArray, List.set_cons_succ, List.set_cons_zero]
  refine wpQuiet_load_row rfl 29 _ rfl (gp0) rfl 29 x3 (0, 0) _ Hrl7.out Tryd.underlying29 rfl h3.info ?_
  simp only [Act.put, List.setIfInBounds_toArray, List.set_cons_succ, List.set_cons_zero]
  go_big_quiet_step (exact c11.re f4.1.1)
  go_big_quiet_step (exact c12.re)
  go_big_quiet_step (fail)
  go_big_quiet_step (fail)
  refine wpQuiet_load_want rfl 29 _ rfl (gp0) rfl 29 x3 (0, 0) _ Hrl7.out Tryd.underlying29 rfl h3.info ?_
  simp only [Act.put, List.setIfInBounds_toArray, List.set_cons_succ, List.set_cons_zero]
  refine wpQuiet_load_want rfl 29 _ rfl (gp1) rfl 29 x5 (0, 0) _ Hrl9.out Tryd.underlying29 rfl h5.info ?_
  simp only [Act.put, List.setIfInBounds_toArray, List.set_cons_succ, List.set_cons_zero]
  go_big_quiet_step (exact c10.re f4.1.1)
  refine wpQuiet_load_want rfl 29 _ rfl (gp2) rfl 29 x7 (0, 0) _ Hrl11.out Tryd.underlying29 rfl h7.info ?_
  simp only [Act.put, List.setIfInBounds_toArray, List.set_cons_succ, List.set_cons_zero]
  go_big_quiet_step (exact c13.re f4.1.1)
  refine wpQuiet_load_want rfl 29 _ rfl (gp0) rfl 29 x3 (0, 0) _ Hrl7.out Tryd.underlying29 rfl h3.info ?_
  simp only [Act.put, List.setIfInBounds_toArray, List.set_cons_succ, List.set_cons_zero]
  refine wpQuiet_load_want rfl 29 _ rfl (gp1) rfl 29 x5 (0, 0) _ Hrl9.out Tryd.underlying29 rfl h5.info ?_
  simp only [Act.put, List.setIfInBounds_toArray, List.set_cons_succ, List.set_cons_zero]
  refine wpQuiet_load_want rfl 29 _ rfl (gp2) rfl 29 x7 (0, 0) _ Hrl11.out Tryd.underlying29 rfl h7.info ?_
  simp only [Act.put, List.setIfInBounds_toArray, List.set_cons_succ, List.set_cons_zero]
  go_big_quiet_step (exact c14.re f4.1.1)
  go_big_quiet_step (exact c15.re f4.1.1)
  go_big_quiet_step (exact c16.re)
  go_big_quiet_step (fail)
  go_big_quiet_step (fail)
  go_big_quiet_step (fail)
  refine wpQuiet_load_want rfl 29 _ rfl (gp0) rfl 29 x3 (0, 0) _ Hrl7.out Tryd.underlying29 rfl h3.info ?_
  simp only [Act.put, List.setIfInBounds_toArray, List.set_cons_succ, List.set_cons_zero]
  refine wpQuiet_load_want rfl 29 _ rfl (gz) rfl 29 #[.int .u64 0, .int .u64 0, .int .u64 0, .int .u64 0, .int .u64 0, .int .u64 0, .int .u64 0, .int .u64 0, .int .u64 0, .int .u64 0, .int .u64 0, .int .u64 0, .int .u64 0, .int .u64 0, .int .u64 0, .int .u64 0, .int .u64 0, .int .u64 0, .int .u64 0, .int .u64 0] (0, 0) _ Hrl13.out Tryd.underlying29 rfl pt_zero.info ?_
  simp only [Act.put, List.setIfInBounds_toArray, List.set_cons_succ, List.set_cons_zero]
  go_big_quiet_step (exact c17.re f4.1.1)
  refine wpQuiet_load_want rfl 29 _ rfl (gp0) rfl 29 x3 (0, 0) _ Hrl7.out Tryd.underlying29 rfl h3.info ?_
  simp only [Act.put, List.setIfInBounds_toArray, List.set_cons_succ, List.set_cons_zero]
  go_big_quiet_step (exact c18.re)
  go_big_quiet_step (fail)
  go_big_quiet_step (fail)
  refine wpQuiet_nil ?_
  rintro _ ⟨p, rfl⟩
  have hb := below_regrown wz p.d p.os
  generalize grow (redrawn wz p.d) p.os = w9 at *
  replace rp0 := keep hb rp0
  replace rp1 := keep hb rp1
  replace rp2 := keep hb rp2
  replace rl7 := keep hb rl7
  replace rl9 := keep hb rl9
  replace rl11 := keep hb rl11
  replace rl13 := keep hb rl13
  replace hw := Below.after hw hb
  replace f4 := f4.below hb
  clear hb
  clear Hrp0 Hrp1 Hrp2 Hrl7 Hrl9 Hrl11 Hrl13
  go_wp2_with (fail)
  have Hrp0 := keepr rp0
  have Hrp1 := keepr rp1
  have Hrp2 := keepr rp2
  have Hrl7 := keepr rl7
  have Hrl9 := keepr rl9
  have Hrl11 := keepr rl11
  have Hrl13 := keepr rl13
  refine wp_region_quiet_below (by kernel_rfl) (by kernel_rfl) ?_
  refine wpQuiet_load_row rfl 29 _ rfl (gp0) rfl 29 x3 (0, 0) _ Hrl7.out Tryd.underlying29 rfl h3.info ?_
  simp only [Act.put, List.setIfInBounds_toArray, List.set_cons_succ, List.set_cons_zero]
  refine wpQuiet_load_row rfl 29 _ rfl (gp0) rfl 29 x3 (0, 0) _ Hrl7.out Tryd.underlying29 rfl h3.info ?_
  simp only [Act.put, List.setIfInBounds_toArray, List.set_cons_succ, List.set_cons_zero]
  go_big_quiet_step (exact c20.re f4.1.1)
  go_big_quiet_step (exact c21.re f4.1.1)
  go_big_quiet_step (exact c22.re)
  go_big_quiet_step (fail)
  refine wpQuiet_load_want rfl 29 _ rfl (gp0) rfl 29 x3 (0, 0) _ Hrl7.out Tryd.underlying29 rfl h3.info ?_
  simp only [Act.put, List.setIfInBounds_toArray, List.set_cons_succ, List.set_cons_zero]
  refine wpQuiet_load_want rfl 29 _ rfl (gp1) rfl 29 x5 (0, 0) _ Hrl9.out Tryd.underlying29 rfl h5.info ?_
  simp only [Act.put, List.setIfInBounds_toArray, List.set_cons_succ, List.set_cons_zero]
  go_big_quiet_step (exact c23.re f4.1.1)
  refine wpQuiet_load_want rfl 29 _ rfl (gp0) rfl 29 x3 (0, 0) _ Hrl7.out Tryd.underlying29 rfl h3.info ?_
  simp only [Act.put, List.setIfInBounds_toArray, List.set_cons_succ, List.set_cons_zero]
  refine wpQuiet_load_want rfl 29 _ rfl (gp1) rfl 29 x5 (0, 0) _ Hrl9.out Tryd.underlying29 rfl h5.info ?_
  simp only [Act.put, List.setIfInBounds_toArray, List.set_cons_succ, List.set_cons_zero]
  go_big_quiet_step (exact c24.re f4.1.1)
  go_big_quiet_step (exact c25.re f4.1.1)
  go_big_quiet_step (exact c26.re)
  go_big_quiet_step (fail)
  go_big_quiet_step (fail)
  refine wpQuiet_load_want rfl 29 _ rfl (gp0) rfl 29 x3 (0, 0) _ Hrl7.out Tryd.underlying29 rfl h3.info ?_
  simp only [Act.put, List.setIfInBounds_toArray, List.set_cons_succ, List.set_cons_zero]
  go_big_quiet_step (exact c27.re f4.1.1)
  refine wpQuiet_load_want rfl 29 _ rfl (gp0) rfl 29 x3 (0, 0) _ Hrl7.out Tryd.underlying29 rfl h3.info ?_
  simp only [Act.put, List.setIfInBounds_toArray, List.set_cons_succ, List.set_cons_zero]
  refine wpQuiet_load_want rfl 29 _ rfl (gp0) rfl 29 x3 (0, 0) _ Hrl7.out Tryd.underlying29 rfl h3.info ?_
  simp only [Act.put, List.setIfInBounds_toArray, List.set_cons_succ, List.set_cons_zero]
  go_big_quiet_step (exact c28.re f4.1.1)
  go_big_quiet_step (exact c29.re)
  go_big_quiet_step (fail)
  go_big_quiet_step (fail)
  refine wpQuiet_load_want rfl 29 _ rfl (gp0) rfl 29 x3 (0, 0) _ Hrl7.out Tryd.underlying29 rfl h3.info ?_
  simp only [Act.put, List.setIfInBounds_toArray, List.set_cons_succ, List.set_cons_zero]
  refine wpQuiet_load_want rfl 29 _ rfl (gp1) rfl 29 x5 (0, 0) _ Hrl9.out Tryd.underlying29 rfl h5.info ?_
  simp only [Act.put, List.setIfInBounds_toArray, List.set_cons_succ, List.set_cons_zero]
  go_big_quiet_step (exact c23.re f4.1.1)
  refine wpQuiet_load_want rfl 29 _ rfl (gp1) rfl 29 x5 (0, 0) _ Hrl9.out Tryd.underlying29 rfl h5.info ?_
  simp only [Act.put, List.setIfInBounds_toArray, List.set_cons_succ, List.set_cons_zero]
  go_big_quiet_step (exact c30.re f4.1.1)
  refine wpQuiet_load_want rfl 29 _ rfl (gp0) rfl 29 x3 (0, 0) _ Hrl7.out Tryd.underlying29 rfl h3.info ?_
  simp only [Act.put, List.setIfInBounds_toArray, List.set_cons_succ, List.set_cons_zero]
  go_big_quiet_step (exact c31.re)
  go_big_quiet_step (fail)
  go_big_quiet_step (fail)
  refine wpQuiet_nil ?_
  rintro _ ⟨p, rfl⟩
  have hb := below_regrown w9 p.d p.os
  generalize grow (redrawn w9 p.d) p.os = w19 at *
  replace rp0 := keep hb rp0
  replace rp1 := keep hb rp1
  replace rp2 := keep hb rp2
  replace rl7 := keep hb rl7
  replace rl9 := keep hb rl9
  replace rl11 := keep hb rl11
  replace rl13 := keep hb rl13
  replace hw := Below.after hw hb
  replace f4 := f4.below hb
  clear hb
  clear Hrp0 Hrp1 Hrp2 Hrl7 Hrl9 Hrl11 Hrl13
  go_wp2
  go_ret
  exact ⟨rfl, hw⟩

end Go.Proofs.YtgfhoabgbgddbaaDoor

