import Derived.Test.YtgfhoabgbgddbaaDoorProg
import Derived.WalkKit
import Derived.WalkSpells
import Derived.WalkLawsBesides
import Derived.Lib.QuietBelow
import Derived.BigQuiet
import Derived.Test.YtgfhoabgbgddbaaDoorKa
import Derived.Test.YtgfhoabgbgddbaaDoorDwg
import Derived.Test.YtgfhoabgbgddbaaDoorDwh
namespace Go.Proofs.YtgfhoabgbgddbaaDoor
set_option maxRecDepth 100000
open Go.RowKit Go.Sort
attribute [local go_sem] setCell_drewN alloc_drewN

set_option maxRecDepth 100000 in
set_option maxHeartbeats 8000000 in
theorem form_any {ka kb' : Array Value} {A B : Int} (ha : KeyOf ka A) (hb' : KeyOf kb' B) (bs : List Int) (hz : ∀ z ∈ bs, 0 ≤ z ∧ z < 256) (w : World) (ev : Value) (hF : Edw w) (hB : Bys w ev bs) : Calls Tryd.prog 9 #[.agg ka, .agg kb', ev] w fun e w' => e = .returned (.bool true) ∧ Below w.heap.size w w' := by
  have hb_ : KeyOf (kb B) B := by rw [← key_is hb']; exact hb'
  rw [key_is hb']
  clear hb'
  rcases pe_or B with ⟨P, e1, e2, e3⟩ | ⟨e1, e2, e3⟩
  · have heq : ∀ W, (Op.equalIn 10000 23 (.agg (kb (pb P))) (.agg (kb B))).run Tryd.prog W = .ok true W := fun W => by
      rw [e1, kb_equal _ _ hb_.bd.1 hb_.bd.2 hb_.bd.1 hb_.bd.2]; simp
    have c1 := a_lives2
    obtain ⟨x3, h3, c3⟩ := a_Parse ha
    obtain ⟨x6, h6, c6⟩ := a_Base
    obtain ⟨x7, h7, c7⟩ := a_Scale h6 bs hz
    obtain ⟨x8, h8, c8⟩ := a_Add h3 h7
    generalize pl (pp A) (ml (bval bs) bp) = Q at h8
    have c11 := a_Bytes h8
    obtain ⟨x13, h13, c13⟩ := a_Parse (pb_key Q)
    rw [pp_pb] at h13
    rw [pe_pb] at c13
    have c15 := a_samep h13 h8 rfl
    obtain ⟨x17, h17, c17⟩ := a_Parse hb_
    rw [e2] at h17
    rw [e3] at c17
    have c20 := a_Bytes h17
    clear e1 e2 e3
    have rp0 : ((w.alloc (.cells ka 23)).alloc (.cells (kb B) 23)).heap[w.heap.size]? = some (.cells ka 23 (0, 0)) := hp2_0 w _ _
    have rp1 : ((w.alloc (.cells ka 23)).alloc (.cells (kb B) 23)).heap[w.heap.size + 1]? = some (.cells (kb B) 23 (0, 0)) := hp2_1 w _ _
    have hw : Below w.heap.size w ((w.alloc (.cells ka 23)).alloc (.cells (kb B) 23)) := (((Below.refl _ _).alloc (Nat.le_refl _) _).alloc (by simp) _)
    have hz0 := hF.sz
    have f4 : Edw ((w.alloc (.cells ka 23)).alloc (.cells (kb B) 23)) := ((hF.alloc _).alloc _)
    go_enter Tryd.func9, Tryd.ntmps9
    iterate 12 go_step
    generalize ((w.alloc (.cells ka 23)).alloc (.cells (kb B) 23)) = w0 at *
    replace hB := hB.keep hw
    go_wp2_with (first | (refine wpList_load_want rfl 23 _ rfl (w.heap.size) rfl 23 ka (0, 0) _ rp0 Tryd.underlying23 rfl ha.info ?_) | (refine wpList_load_want rfl 23 _ rfl (w.heap.size + 1) rfl 23 (kb B) (0, 0) _ rp1 Tryd.underlying23 rfl hb_.info ?_) | fail)
    refine (c1.at f4).mono ?_
    rintro e w2 ⟨rfl, hb⟩
    replace rp0 := keep hb rp0
    replace rp1 := keep hb rp1
    replace hw := Below.after hw hb
    replace f4 := f4.below hb
    replace hB := hB.keep hb
    clear hb
    go_wp2_with (first | (refine wpList_load_want rfl 23 _ rfl (w.heap.size) rfl 23 ka (0, 0) _ rp0 Tryd.underlying23 rfl ha.info ?_) | (refine wpList_load_want rfl 23 _ rfl (w.heap.size + 1) rfl 23 (kb B) (0, 0) _ rp1 Tryd.underlying23 rfl hb_.info ?_) | fail)
    refine (c3.at f4.1).mono ?_
    rintro e w4 ⟨rfl, hb⟩
    replace rp0 := keep hb rp0
    replace rp1 := keep hb rp1
    replace hw := Below.after hw hb
    replace f4 := f4.below hb
    replace hB := hB.keep hb
    clear hb
    go_wp2_with (first | (refine wpList_store_row rfl 29 _ _ rfl (w4.heap.size) x3 rfl rfl 29 #[.int .u64 0, .int .u64 0, .int .u64 0, .int .u64 0, .int .u64 0, .int .u64 0, .int .u64 0, .int .u64 0, .int .u64 0, .int .u64 0, .int .u64 0, .int .u64 0, .int .u64 0, .int .u64 0, .int .u64 0, .int .u64 0, .int .u64 0, .int .u64 0, .int .u64 0, .int .u64 0] (hp1_0 w4 _) h3.info (h3.size).symm h3.one ?_; rw [setRow_alloc_new _ _ _ _ _ _ (by simp)]; refine wpList_stay ?_) | fail)
    unfold WpStay
    try simp only [Act.put]
    have rl7 : (w4.alloc (.cells x3 29)).heap[w4.heap.size]? = some (.cells x3 29 (0, 0)) := hp1_0 w4 _
    have hb : Below w4.heap.size w4 (w4.alloc (.cells x3 29)) := ((Below.refl _ _).alloc (Nat.le_refl _) _)
    generalize (w4.alloc (.cells x3 29)) = wp at *
    have ygp_0 := lt_of_row rp0
    have ygp_1 := lt_of_row rp1
    have ygp := hw.size
    have zgp := f4.sz
    replace rp0 := keep hb rp0
    replace rp1 := keep hb rp1
    replace hw := Below.after hw hb
    replace f4 := f4.below hb
    replace hB := hB.keep hb
    clear hb
    generalize w4.heap.size = gp at *
    clear w4
    go_wp2_with (fail)
    refine wp_region_alloc_ex 5 6 [9] (fun _ => .cells #[.int .u64 0, .int .u64 0, .int .u64 0, .int .u64 0, .int .u64 0, .int .u64 0, .int .u64 0, .int .u64 0, .int .u64 0, .int .u64 0, .int .u64 0, .int .u64 0, .int .u64 0, .int .u64 0, .int .u64 0, .int .u64 0, .int .u64 0, .int .u64 0, .int .u64 0, .int .u64 0] 29 (0, 0)) (by kernel_rfl) (by decide) (by decide) (by kernel_rfl) (by kernel_rfl) (by kernel_rfl) (by kernel_rfl) (by kernel_rfl) (by kernel_rfl) (by kernel_rfl) (by kernel_rfl) (by decide) (by decide) ?_ ?_
    · intro s l u
      rcases (by omega : s = 5) with rfl <;> exact ⟨_, _, rfl, rfl, rfl, rfl, fun a w => by kernel_rfl⟩
    apply Exists.intro
    constructor
    · intro v5 hb
      have Hrp0 := keepr (keep hb rp0)
      have Hrp1 := keepr (keep hb rp1)
      have Hrl7 := keepr (keep hb rl7)
      have F4 := f4.below hb
      have H_hB := hB.keep hb
      clear hb; dsimp only [List.take]
      refine wpQuiet_load_row rfl 29 _ rfl (gp) rfl 29 x3 (0, 0) _ Hrl7.out Tryd.underlying29 rfl h3.info ?_
      simp only [Act.put, List.setIfInBounds_toArray, List.set_cons_succ, List.set_cons_zero]
      go_big_quiet_step (exact c6.re F4)
      go_big_quiet_step (fail)
      go_big_quiet_step (exact re_bys4 F4.1.1 H_hB c7)
      go_big_quiet_step (exact c8.re F4.1.1)
      refine wpQuiet_nil ?_
      rfl
    intro w9 g hb hg hd
    obtain ⟨lg9, rg9⟩ := hg 9 (by simp)
    replace rg9 : w9.heap[g 9]? = some (.cells #[.int .u64 0, .int .u64 0, .int .u64 0, .int .u64 0, .int .u64 0, .int .u64 0, .int .u64 0, .int .u64 0, .int .u64 0, .int .u64 0, .int .u64 0, .int .u64 0, .int .u64 0, .int .u64 0, .int .u64 0, .int .u64 0, .int .u64 0, .int .u64 0, .int .u64 0, .int .u64 0] 29 (0, 0)) := rg9
    simp only [List.drop, puts, ptrs, List.map, List.foldl, Act.put, List.setIfInBounds_toArray, List.set_cons_succ, List.set_cons_zero]
    clear hg hd
    generalize g 9 = gq at *
    have lrp0 := lt_of_row rp0
    have lrp1 := lt_of_row rp1
    have lrl7 := lt_of_row rl7
    have hs := hw.size
    have hz := f4.sz
    replace rp0 := keep hb rp0
    replace rp1 := keep hb rp1
    replace rl7 := keep hb rl7
    replace hw := Below.after hw hb
    replace f4 := f4.below hb
    replace hB := hB.keep hb
    clear hb
    refine wpList_store_row rfl 29 _ _ rfl gq x8 rfl rfl 29 _ rg9 h8.info (h8.size).symm h8.one ?_
    simp only [Act.put]
    replace rp0 := (setRow_other w9 gq (w.heap.size) x8 (by omega)).trans rp0
    replace rp1 := (setRow_other w9 gq (w.heap.size + 1) x8 (by omega)).trans rp1
    replace rl7 := (setRow_other w9 gq (gp) x8 (by omega)).trans rl7
    replace rg9 := setRow_heap w9 gq _ x8 _ _ rg9
    replace hw := below_setRow hw (show w.heap.size ≤ gq by omega) x8
    replace f4 := f4.setRow (show 4 < gq by omega) x8
    generalize w9.setRow gq x8 = w10 at *
    have ygq_0 : w.heap.size < gq := by omega
    have ygq_1 : w.heap.size + 1 < gq := by omega
    have ygq_2 : gp < gq := by omega
    have ygq : w.heap.size ≤ gq := by omega
    have zgq : 4 < gq := by omega
    clear hs hz lrp0 lrp1 lrl7 lg9
    go_wp2_with (first | (refine wpList_load_want rfl 23 _ rfl (w.heap.size) rfl 23 ka (0, 0) _ rp0 Tryd.underlying23 rfl ha.info ?_) | (refine wpList_load_want rfl 23 _ rfl (w.heap.size + 1) rfl 23 (kb B) (0, 0) _ rp1 Tryd.underlying23 rfl hb_.info ?_) | (refine wpList_load_want rfl 29 _ rfl (gp) rfl 29 x3 (0, 0) _ rl7 Tryd.underlying29 rfl h3.info ?_) | (refine wpList_load_want rfl 29 _ rfl (gq) rfl 29 x8 (0, 0) _ rg9 Tryd.underlying29 rfl h8.info ?_) | fail)
    refine (c11.at _).mono ?_
    rintro e w12 ⟨rfl, hb⟩
    replace rp0 := keep hb rp0
    replace rp1 := keep hb rp1
    replace rl7 := keep hb rl7
    replace rg9 := keep hb rg9
    replace hw := Below.after hw hb
    replace f4 := f4.below hb
    clear hb
    go_wp2_with (first | (refine wpList_load_want rfl 23 _ rfl (w.heap.size) rfl 23 ka (0, 0) _ rp0 Tryd.underlying23 rfl ha.info ?_) | (refine wpList_load_want rfl 23 _ rfl (w.heap.size + 1) rfl 23 (kb B) (0, 0) _ rp1 Tryd.underlying23 rfl hb_.info ?_) | (refine wpList_load_want rfl 29 _ rfl (gp) rfl 29 x3 (0, 0) _ rl7 Tryd.underlying29 rfl h3.info ?_) | (refine wpList_load_want rfl 29 _ rfl (gq) rfl 29 x8 (0, 0) _ rg9 Tryd.underlying29 rfl h8.info ?_) | fail)
    refine (c13.at f4.1).mono ?_
    rintro e w14 ⟨rfl, hb⟩
    replace rp0 := keep hb rp0
    replace rp1 := keep hb rp1
    replace rl7 := keep hb rl7
    replace rg9 := keep hb rg9
    replace hw := Below.after hw hb
    replace f4 := f4.below hb
    clear hb
    go_wp2_with (first | (refine wpList_store_row rfl 29 _ _ rfl (w14.heap.size) x13 rfl rfl 29 #[.int .u64 0, .int .u64 0, .int .u64 0, .int .u64 0, .int .u64 0, .int .u64 0, .int .u64 0, .int .u64 0, .int .u64 0, .int .u64 0, .int .u64 0, .int .u64 0, .int .u64 0, .int .u64 0, .int .u64 0, .int .u64 0, .int .u64 0, .int .u64 0, .int .u64 0, .int .u64 0] (hp1_0 w14 _) h13.info (h13.size).symm h13.one ?_; rw [setRow_alloc_new _ _ _ _ _ _ (by simp)]; refine wpList_stay ?_) | fail)
    unfold WpStay
    try simp only [Act.put]
    have rl10 : (w14.alloc (.cells x13 29)).heap[w14.heap.size]? = some (.cells x13 29 (0, 0)) := hp1_0 w14 _
    have hb : Below w14.heap.size w14 (w14.alloc (.cells x13 29)) := ((Below.refl _ _).alloc (Nat.le_refl _) _)
    generalize (w14.alloc (.cells x13 29)) = wr at *
    have ygr_0 := lt_of_row rp0
    have ygr_1 := lt_of_row rp1
    have ygr_2 := lt_of_row rl7
    have ygr_3 := lt_of_row rg9
    have ygr := hw.size
    have zgr := f4.sz
    replace rp0 := keep hb rp0
    replace rp1 := keep hb rp1
    replace rl7 := keep hb rl7
    replace rg9 := keep hb rg9
    replace hw := Below.after hw hb
    replace f4 := f4.below hb
    clear hb
    generalize w14.heap.size = gr at *
    clear w14
    go_wp2_with (first | (refine wpList_load_want rfl 23 _ rfl (w.heap.size) rfl 23 ka (0, 0) _ rp0 Tryd.underlying23 rfl ha.info ?_) | (refine wpList_load_want rfl 23 _ rfl (w.heap.size + 1) rfl 23 (kb B) (0, 0) _ rp1 Tryd.underlying23 rfl hb_.info ?_) | (refine wpList_load_want rfl 29 _ rfl (gp) rfl 29 x3 (0, 0) _ rl7 Tryd.underlying29 rfl h3.info ?_) | (refine wpList_load_want rfl 29 _ rfl (gq) rfl 29 x8 (0, 0) _ rg9 Tryd.underlying29 rfl h8.info ?_) | (refine wpList_load_want rfl 29 _ rfl (gr) rfl 29 x13 (0, 0) _ rl10 Tryd.underlying29 rfl h13.info ?_) | fail)
    refine (c15.at _).mono ?_
    rintro e w16 ⟨rfl, hb⟩
    replace rp0 := keep hb rp0
    replace rp1 := keep hb rp1
    replace rl7 := keep hb rl7
    replace rg9 := keep hb rg9
    replace rl10 := keep hb rl10
    replace hw := Below.after hw hb
    replace f4 := f4.below hb
    clear hb
    go_wp2_with (first | (refine wpList_load_want rfl 23 _ rfl (w.heap.size) rfl 23 ka (0, 0) _ rp0 Tryd.underlying23 rfl ha.info ?_) | (refine wpList_load_want rfl 23 _ rfl (w.heap.size + 1) rfl 23 (kb B) (0, 0) _ rp1 Tryd.underlying23 rfl hb_.info ?_) | (refine wpList_load_want rfl 29 _ rfl (gp) rfl 29 x3 (0, 0) _ rl7 Tryd.underlying29 rfl h3.info ?_) | (refine wpList_load_want rfl 29 _ rfl (gq) rfl 29 x8 (0, 0) _ rg9 Tryd.underlying29 rfl h8.info ?_) | (refine wpList_load_want rfl 29 _ rfl (gr) rfl 29 x13 (0, 0) _ rl10 Tryd.underlying29 rfl h13.info ?_) | fail)
    refine (c17.at f4.1).mono ?_
    rintro e w18 ⟨rfl, hb⟩
    replace rp0 := keep hb rp0
    replace rp1 := keep hb rp1
    replace rl7 := keep hb rl7
    replace rg9 := keep hb rg9
    replace rl10 := keep hb rl10
    replace hw := Below.after hw hb
    replace f4 := f4.below hb
    clear hb
    go_wp2_with (first | (refine wpList_store_row rfl 29 _ _ rfl (w18.heap.size) x17 rfl rfl 29 #[.int .u64 0, .int .u64 0, .int .u64 0, .int .u64 0, .int .u64 0, .int .u64 0, .int .u64 0, .int .u64 0, .int .u64 0, .int .u64 0, .int .u64 0, .int .u64 0, .int .u64 0, .int .u64 0, .int .u64 0, .int .u64 0, .int .u64 0, .int .u64 0, .int .u64 0, .int .u64 0] (hp1_0 w18 _) h17.info (h17.size).symm h17.one ?_; rw [setRow_alloc_new _ _ _ _ _ _ (by simp)]; refine wpList_stay ?_) | fail)
    unfold WpStay
    try simp only [Act.put]
    have rl12 : (w18.alloc (.cells x17 29)).heap[w18.heap.size]? = some (.cells x17 29 (0, 0)) := hp1_0 w18 _
    have hb : Below w18.heap.size w18 (w18.alloc (.cells x17 29)) := ((Below.refl _ _).alloc (Nat.le_refl _) _)
    generalize (w18.alloc (.cells x17 29)) = wx at *
    have ygx_0 := lt_of_row rp0
    have ygx_1 := lt_of_row rp1
    have ygx_2 := lt_of_row rl7
    have ygx_3 := lt_of_row rg9
    have ygx_4 := lt_of_row rl10
    have ygx := hw.size
    have zgx := f4.sz
    replace rp0 := keep hb rp0
    replace rp1 := keep hb rp1
    replace rl7 := keep hb rl7
    replace rg9 := keep hb rg9
    replace rl10 := keep hb rl10
    replace hw := Below.after hw hb
    replace f4 := f4.below hb
    clear hb
    generalize w18.heap.size = gx at *
    clear w18
    go_wp2_with (fail)
    have Hrp0 := keepr rp0
    have Hrp1 := keepr rp1
    have Hrl7 := keepr rl7
    have Hrg9 := keepr rg9
    have Hrl10 := keepr rl10
    have Hrl12 := keepr rl12
    refine wp_region_quiet_below (by kernel_rfl) (by kernel_rfl) ?_
    go_big_quiet_step (fail)
    go_big_quiet_step (fail)
    go_big_quiet_step (fail)
    refine wpQuiet_load_want rfl 29 _ rfl (gx) rfl 29 x17 (0, 0) _ Hrl12.out Tryd.underlying29 rfl h17.info ?_
    simp only [Act.put, List.setIfInBounds_toArray, List.set_cons_succ, List.set_cons_zero]
    go_big_quiet_step (exact c20.re)
    refine wpQuiet_load_want rfl 23 _ rfl (w.heap.size + 1) rfl 23 (kb B) (0, 0) _ Hrp1.out Tryd.underlying23 rfl hb_.info ?_
    simp only [Act.put, List.setIfInBounds_toArray, List.set_cons_succ, List.set_cons_zero]
    go_big_quiet_step (fail)
    go_big_quiet_step (fail)
    go_big_quiet_step (fail)
    refine wpQuiet_nil ?_
    rintro _ ⟨p, rfl⟩
    have hb := below_regrown wx p.d p.os
    generalize grow (redrawn wx p.d) p.os = w19 at *
    replace rp0 := keep hb rp0
    replace rp1 := keep hb rp1
    replace rl7 := keep hb rl7
    replace rg9 := keep hb rg9
    replace rl10 := keep hb rl10
    replace rl12 := keep hb rl12
    replace hw := Below.after hw hb
    replace f4 := f4.below hb
    clear hb
    clear Hrp0 Hrp1 Hrl7 Hrg9 Hrl10 Hrl12
    go_wp2
    go_ret
    exact ⟨rfl, hw⟩
  · have c1 := a_lives2
    obtain ⟨x3, h3, c3⟩ := a_Parse ha
    obtain ⟨x6, h6, c6⟩ := a_Base
    obtain ⟨x7, h7, c7⟩ := a_Scale h6 bs hz
    obtain ⟨x8, h8, c8⟩ := a_Add h3 h7
    generalize pl (pp A) (ml (bval bs) bp) = Q at h8
    have c11 := a_Bytes h8
    obtain ⟨x13, h13, c13⟩ := a_Parse (pb_key Q)
    rw [pp_pb] at h13
    rw [pe_pb] at c13
    have c15 := a_samep h13 h8 rfl
    obtain ⟨x17, h17, c17⟩ := a_Parse hb_
    rw [e2] at h17
    rw [e3] at c17
    clear e1 e2 e3
    have rp0 : ((w.alloc (.cells ka 23)).alloc (.cells (kb B) 23)).heap[w.heap.size]? = some (.cells ka 23 (0, 0)) := hp2_0 w _ _
    have rp1 : ((w.alloc (.cells ka 23)).alloc (.cells (kb B) 23)).heap[w.heap.size + 1]? = some (.cells (kb B) 23 (0, 0)) := hp2_1 w _ _
    have hw : Below w.heap.size w ((w.alloc (.cells ka 23)).alloc (.cells (kb B) 23)) := (((Below.refl _ _).alloc (Nat.le_refl _) _).alloc (by simp) _)
    have hz0 := hF.sz
    have f4 : Edw ((w.alloc (.cells ka 23)).alloc (.cells (kb B) 23)) := ((hF.alloc _).alloc _)
    go_enter Tryd.func9, Tryd.ntmps9
    iterate 12 go_step
    generalize ((w.alloc (.cells ka 23)).alloc (.cells (kb B) 23)) = w0 at *
    replace hB := hB.keep hw
    go_wp2_with (first | (refine wpList_load_want rfl 23 _ rfl (w.heap.size) rfl 23 ka (0, 0) _ rp0 Tryd.underlying23 rfl ha.info ?_) | (refine wpList_load_want rfl 23 _ rfl (w.heap.size + 1) rfl 23 (kb B) (0, 0) _ rp1 Tryd.underlying23 rfl hb_.info ?_) | fail)
    refine (c1.at f4).mono ?_
    rintro e w2 ⟨rfl, hb⟩
    replace rp0 := keep hb rp0
    replace rp1 := keep hb rp1
    replace hw := Below.after hw hb
    replace f4 := f4.below hb
    replace hB := hB.keep hb
    clear hb
    go_wp2_with (first | (refine wpList_load_want rfl 23 _ rfl (w.heap.size) rfl 23 ka (0, 0) _ rp0 Tryd.underlying23 rfl ha.info ?_) | (refine wpList_load_want rfl 23 _ rfl (w.heap.size + 1) rfl 23 (kb B) (0, 0) _ rp1 Tryd.underlying23 rfl hb_.info ?_) | fail)
    refine (c3.at f4.1).mono ?_
    rintro e w4 ⟨rfl, hb⟩
    replace rp0 := keep hb rp0
    replace rp1 := keep hb rp1
    replace hw := Below.after hw hb
    replace f4 := f4.below hb
    replace hB := hB.keep hb
    clear hb
    go_wp2_with (first | (refine wpList_store_row rfl 29 _ _ rfl (w4.heap.size) x3 rfl rfl 29 #[.int .u64 0, .int .u64 0, .int .u64 0, .int .u64 0, .int .u64 0, .int .u64 0, .int .u64 0, .int .u64 0, .int .u64 0, .int .u64 0, .int .u64 0, .int .u64 0, .int .u64 0, .int .u64 0, .int .u64 0, .int .u64 0, .int .u64 0, .int .u64 0, .int .u64 0, .int .u64 0] (hp1_0 w4 _) h3.info (h3.size).symm h3.one ?_; rw [setRow_alloc_new _ _ _ _ _ _ (by simp)]; refine wpList_stay ?_) | fail)
    unfold WpStay
    try simp only [Act.put]
    have rl7 : (w4.alloc (.cells x3 29)).heap[w4.heap.size]? = some (.cells x3 29 (0, 0)) := hp1_0 w4 _
    have hb : Below w4.heap.size w4 (w4.alloc (.cells x3 29)) := ((Below.refl _ _).alloc (Nat.le_refl _) _)
    generalize (w4.alloc (.cells x3 29)) = wp at *
    have ygp_0 := lt_of_row rp0
    have ygp_1 := lt_of_row rp1
    have ygp := hw.size
    have zgp := f4.sz
    replace rp0 := keep hb rp0
    replace rp1 := keep hb rp1
    replace hw := Below.after hw hb
    replace f4 := f4.below hb
    replace hB := hB.keep hb
    clear hb
    generalize w4.heap.size = gp at *
    clear w4
    go_wp2_with (fail)
    refine wp_region_alloc_ex 5 6 [9] (fun _ => .cells #[.int .u64 0, .int .u64 0, .int .u64 0, .int .u64 0, .int .u64 0, .int .u64 0, .int .u64 0, .int .u64 0, .int .u64 0, .int .u64 0, .int .u64 0, .int .u64 0, .int .u64 0, .int .u64 0, .int .u64 0, .int .u64 0, .int .u64 0, .int .u64 0, .int .u64 0, .int .u64 0] 29 (0, 0)) (by kernel_rfl) (by decide) (by decide) (by kernel_rfl) (by kernel_rfl) (by kernel_rfl) (by kernel_rfl) (by kernel_rfl) (by kernel_rfl) (by kernel_rfl) (by kernel_rfl) (by decide) (by decide) ?_ ?_
    · intro s l u
      rcases (by omega : s = 5) with rfl <;> exact ⟨_, _, rfl, rfl, rfl, rfl, fun a w => by kernel_rfl⟩
    apply Exists.intro
    constructor
    · intro v5 hb
      have Hrp0 := keepr (keep hb rp0)
      have Hrp1 := keepr (keep hb rp1)
      have Hrl7 := keepr (keep hb rl7)
      have F4 := f4.below hb
      have H_hB := hB.keep hb
      clear hb; dsimp only [List.take]
      refine wpQuiet_load_row rfl 29 _ rfl (gp) rfl 29 x3 (0, 0) _ Hrl7.out Tryd.underlying29 rfl h3.info ?_
      simp only [Act.put, List.setIfInBounds_toArray, List.set_cons_succ, List.set_cons_zero]
      go_big_quiet_step (exact c6.re F4)
      go_big_quiet_step (fail)
      go_big_quiet_step (exact re_bys4 F4.1.1 H_hB c7)
      go_big_quiet_step (exact c8.re F4.1.1)
      refine wpQuiet_nil ?_
      rfl
    intro w9 g hb hg hd
    obtain ⟨lg9, rg9⟩ := hg 9 (by simp)
    replace rg9 : w9.heap[g 9]? = some (.cells #[.int .u64 0, .int .u64 0, .int .u64 0, .int .u64 0, .int .u64 0, .int .u64 0, .int .u64 0, .int .u64 0, .int .u64 0, .int .u64 0, .int .u64 0, .int .u64 0, .int .u64 0, .int .u64 0, .int .u64 0, .int .u64 0, .int .u64 0, .int .u64 0, .int .u64 0, .int .u64 0] 29 (0, 0)) := rg9
    simp only [List.drop, puts, ptrs, List.map, List.foldl, Act.put, List.setIfInBounds_toArray, List.set_cons_succ, List.set_cons_zero]
    clear hg hd
    generalize g 9 = gq at *
    have lrp0 := lt_of_row rp0
    have lrp1 := lt_of_row rp1
    have lrl7 := lt_of_row rl7
    have hs := hw.size
    have hz := f4.sz
    replace rp0 := keep hb rp0
    replace rp1 := keep hb rp1
    replace rl7 := keep hb rl7
    replace hw := Below.after hw hb
    replace f4 := f4.below hb
    replace hB := hB.keep hb
    clear hb
    refine wpList_store_row rfl 29 _ _ rfl gq x8 rfl rfl 29 _ rg9 h8.info (h8.size).symm h8.one ?_
    simp only [Act.put]
    replace rp0 := (setRow_other w9 gq (w.heap.size) x8 (by omega)).trans rp0
    replace rp1 := (setRow_other w9 gq (w.heap.size + 1) x8 (by omega)).trans rp1
    replace rl7 := (setRow_other w9 gq (gp) x8 (by omega)).trans rl7
    replace rg9 := setRow_heap w9 gq _ x8 _ _ rg9
    replace hw := below_setRow hw (show w.heap.size ≤ gq by omega) x8
    replace f4 := f4.setRow (show 4 < gq by omega) x8
    generalize w9.setRow gq x8 = w10 at *
    have ygq_0 : w.heap.size < gq := by omega
    have ygq_1 : w.heap.size + 1 < gq := by omega
    have ygq_2 : gp < gq := by omega
    have ygq : w.heap.size ≤ gq := by omega
    have zgq : 4 < gq := by omega
    clear hs hz lrp0 lrp1 lrl7 lg9
    go_wp2_with (first | (refine wpList_load_want rfl 23 _ rfl (w.heap.size) rfl 23 ka (0, 0) _ rp0 Tryd.underlying23 rfl ha.info ?_) | (refine wpList_load_want rfl 23 _ rfl (w.heap.size + 1) rfl 23 (kb B) (0, 0) _ rp1 Tryd.underlying23 rfl hb_.info ?_) | (refine wpList_load_want rfl 29 _ rfl (gp) rfl 29 x3 (0, 0) _ rl7 Tryd.underlying29 rfl h3.info ?_) | (refine wpList_load_want rfl 29 _ rfl (gq) rfl 29 x8 (0, 0) _ rg9 Tryd.underlying29 rfl h8.info ?_) | fail)
    refine (c11.at _).mono ?_
    rintro e w12 ⟨rfl, hb⟩
    replace rp0 := keep hb rp0
    replace rp1 := keep hb rp1
    replace rl7 := keep hb rl7
    replace rg9 := keep hb rg9
    replace hw := Below.after hw hb
    replace f4 := f4.below hb
    clear hb
    go_wp2_with (first | (refine wpList_load_want rfl 23 _ rfl (w.heap.size) rfl 23 ka (0, 0) _ rp0 Tryd.underlying23 rfl ha.info ?_) | (refine wpList_load_want rfl 23 _ rfl (w.heap.size + 1) rfl 23 (kb B) (0, 0) _ rp1 Tryd.underlying23 rfl hb_.info ?_) | (refine wpList_load_want rfl 29 _ rfl (gp) rfl 29 x3 (0, 0) _ rl7 Tryd.underlying29 rfl h3.info ?_) | (refine wpList_load_want rfl 29 _ rfl (gq) rfl 29 x8 (0, 0) _ rg9 Tryd.underlying29 rfl h8.info ?_) | fail)
    refine (c13.at f4.1).mono ?_
    rintro e w14 ⟨rfl, hb⟩
    replace rp0 := keep hb rp0
    replace rp1 := keep hb rp1
    replace rl7 := keep hb rl7
    replace rg9 := keep hb rg9
    replace hw := Below.after hw hb
    replace f4 := f4.below hb
    clear hb
    go_wp2_with (first | (refine wpList_store_row rfl 29 _ _ rfl (w14.heap.size) x13 rfl rfl 29 #[.int .u64 0, .int .u64 0, .int .u64 0, .int .u64 0, .int .u64 0, .int .u64 0, .int .u64 0, .int .u64 0, .int .u64 0, .int .u64 0, .int .u64 0, .int .u64 0, .int .u64 0, .int .u64 0, .int .u64 0, .int .u64 0, .int .u64 0, .int .u64 0, .int .u64 0, .int .u64 0] (hp1_0 w14 _) h13.info (h13.size).symm h13.one ?_; rw [setRow_alloc_new _ _ _ _ _ _ (by simp)]; refine wpList_stay ?_) | fail)
    unfold WpStay
    try simp only [Act.put]
    have rl10 : (w14.alloc (.cells x13 29)).heap[w14.heap.size]? = some (.cells x13 29 (0, 0)) := hp1_0 w14 _
    have hb : Below w14.heap.size w14 (w14.alloc (.cells x13 29)) := ((Below.refl _ _).alloc (Nat.le_refl _) _)
    generalize (w14.alloc (.cells x13 29)) = wr at *
    have ygr_0 := lt_of_row rp0
    have ygr_1 := lt_of_row rp1
    have ygr_2 := lt_of_row rl7
    have ygr_3 := lt_of_row rg9
    have ygr := hw.size
    have zgr := f4.sz
    replace rp0 := keep hb rp0
    replace rp1 := keep hb rp1
    replace rl7 := keep hb rl7
    replace rg9 := keep hb rg9
    replace hw := Below.after hw hb
    replace f4 := f4.below hb
    clear hb
    generalize w14.heap.size = gr at *
    clear w14
    go_wp2_with (first | (refine wpList_load_want rfl 23 _ rfl (w.heap.size) rfl 23 ka (0, 0) _ rp0 Tryd.underlying23 rfl ha.info ?_) | (refine wpList_load_want rfl 23 _ rfl (w.heap.size + 1) rfl 23 (kb B) (0, 0) _ rp1 Tryd.underlying23 rfl hb_.info ?_) | (refine wpList_load_want rfl 29 _ rfl (gp) rfl 29 x3 (0, 0) _ rl7 Tryd.underlying29 rfl h3.info ?_) | (refine wpList_load_want rfl 29 _ rfl (gq) rfl 29 x8 (0, 0) _ rg9 Tryd.underlying29 rfl h8.info ?_) | (refine wpList_load_want rfl 29 _ rfl (gr) rfl 29 x13 (0, 0) _ rl10 Tryd.underlying29 rfl h13.info ?_) | fail)
    refine (c15.at _).mono ?_
    rintro e w16 ⟨rfl, hb⟩
    replace rp0 := keep hb rp0
    replace rp1 := keep hb rp1
    replace rl7 := keep hb rl7
    replace rg9 := keep hb rg9
    replace rl10 := keep hb rl10
    replace hw := Below.after hw hb
    replace f4 := f4.below hb
    clear hb
    go_wp2_with (first | (refine wpList_load_want rfl 23 _ rfl (w.heap.size) rfl 23 ka (0, 0) _ rp0 Tryd.underlying23 rfl ha.info ?_) | (refine wpList_load_want rfl 23 _ rfl (w.heap.size + 1) rfl 23 (kb B) (0, 0) _ rp1 Tryd.underlying23 rfl hb_.info ?_) | (refine wpList_load_want rfl 29 _ rfl (gp) rfl 29 x3 (0, 0) _ rl7 Tryd.underlying29 rfl h3.info ?_) | (refine wpList_load_want rfl 29 _ rfl (gq) rfl 29 x8 (0, 0) _ rg9 Tryd.underlying29 rfl h8.info ?_) | (refine wpList_load_want rfl 29 _ rfl (gr) rfl 29 x13 (0, 0) _ rl10 Tryd.underlying29 rfl h13.info ?_) | fail)
    refine (c17.at f4.1).mono ?_
    rintro e w18 ⟨rfl, hb⟩
    replace rp0 := keep hb rp0
    replace rp1 := keep hb rp1
    replace rl7 := keep hb rl7
    replace rg9 := keep hb rg9
    replace rl10 := keep hb rl10
    replace hw := Below.after hw hb
    replace f4 := f4.below hb
    clear hb
    go_wp2_with (first | (refine wpList_store_row rfl 29 _ _ rfl (w18.heap.size) x17 rfl rfl 29 #[.int .u64 0, .int .u64 0, .int .u64 0, .int .u64 0, .int .u64 0, .int .u64 0, .int .u64 0, .int .u64 0, .int .u64 0, .int .u64 0, .int .u64 0, .int .u64 0, .int .u64 0, .int .u64 0, .int .u64 0, .int .u64 0, .int .u64 0, .int .u64 0, .int .u64 0, .int .u64 0] (hp1_0 w18 _) h17.info (h17.size).symm h17.one ?_; rw [setRow_alloc_new _ _ _ _ _ _ (by simp)]; refine wpList_stay ?_) | fail)
    unfold WpStay
    try simp only [Act.put]
    have rl12 : (w18.alloc (.cells x17 29)).heap[w18.heap.size]? = some (.cells x17 29 (0, 0)) := hp1_0 w18 _
    have hb : Below w18.heap.size w18 (w18.alloc (.cells x17 29)) := ((Below.refl _ _).alloc (Nat.le_refl _) _)
    generalize (w18.alloc (.cells x17 29)) = wx at *
    have ygx_0 := lt_of_row rp0
    have ygx_1 := lt_of_row rp1
    have ygx_2 := lt_of_row rl7
    have ygx_3 := lt_of_row rg9
    have ygx_4 := lt_of_row rl10
    have ygx := hw.size
    have zgx := f4.sz
    replace rp0 := keep hb rp0
    replace rp1 := keep hb rp1
    replace rl7 := keep hb rl7
    replace rg9 := keep hb rg9
    replace rl10 := keep hb rl10
    replace hw := Below.after hw hb
    replace f4 := f4.below hb
    clear hb
    generalize w18.heap.size = gx at *
    clear w18
    go_wp2_with (fail)
    have Hrp0 := keepr rp0
    have Hrp1 := keepr rp1
    have Hrl7 := keepr rl7
    have Hrg9 := keepr rg9
    have Hrl10 := keepr rl10
    have Hrl12 := keepr rl12
    refine wp_region_quiet_below (by kernel_rfl) (by kernel_rfl) ?_
    go_big_quiet_step (fail)
    go_big_quiet_step (fail)
    go_big_quiet_step (fail)
    go_big_quiet_step (fail)
    go_big_quiet_step (fail)
    go_big_quiet_step (fail)
    go_big_quiet_step (fail)
    go_big_quiet_step (fail)
    go_big_quiet_step (fail)
    refine wpQuiet_nil ?_
    rintro _ ⟨p, rfl⟩
    have hb := below_regrown wx p.d p.os
    generalize grow (redrawn wx p.d) p.os = w19 at *
    replace rp0 := keep hb rp0
    replace rp1 := keep hb rp1
    replace rl7 := keep hb rl7
    replace rg9 := keep hb rg9
    replace rl10 := keep hb rl10
    replace rl12 := keep hb rl12
    replace hw := Below.after hw hb
    replace f4 := f4.below hb
    clear hb
    clear Hrp0 Hrp1 Hrl7 Hrg9 Hrl10 Hrl12
    go_wp2
    go_ret
    exact ⟨rfl, hw⟩

end Go.Proofs.YtgfhoabgbgddbaaDoor

