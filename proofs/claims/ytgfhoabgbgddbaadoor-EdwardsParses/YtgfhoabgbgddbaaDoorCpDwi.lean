import Derived.Test.YtgfhoabgbgddbaaDoorProg
import Derived.WalkKit
import Derived.WalkSpells
import Derived.WalkLawsBesides
import Derived.Lib.QuietBelow
import Derived.BigQuiet
import Derived.Test.YtgfhoabgbgddbaaDoorCpKa
import Derived.Test.YtgfhoabgbgddbaaDoorCpDwf
namespace Go.Proofs.YtgfhoabgbgddbaaDoor
set_option maxRecDepth 100000
open Go.RowKit Go.Sort
attribute [local go_sem] setCell_drewN alloc_drewN
set_option maxRecDepth 100000 in
set_option maxHeartbeats 8000000 in
theorem lift_zero {k ur : Array Value} {N U : Int} {odd : Bool} (hk : KeyOf k N) (hu : NumOf ur U) (cF : Gives 46 #[.agg k] (.agg ur)) (hz : decide ((U + 1) % prm = 0) = true) : Gives5 14 #[.agg k, .bool odd] (.tuple #[.agg #[.int .u64 0, .int .u64 0, .int .u64 0, .int .u64 0, .int .u64 0, .int .u64 0, .int .u64 0, .int .u64 0, .int .u64 0, .int .u64 0, .int .u64 0, .int .u64 0, .int .u64 0, .int .u64 0, .int .u64 0, .int .u64 0, .int .u64 0, .int .u64 0, .int .u64 0, .int .u64 0], .int .i64 190]) := by
 obtain ⟨x3, h3, c3⟩ := a_small 1 (by decide) (by decide)
 obtain ⟨x5, h5, c5⟩ := a_add hu h3
 have c7 := a_isZero h5
 rw [hz] at c7
 intro w hF
 have rp0 : ((w.alloc (.cells k 23)).alloc (.cells #[.int .u64 0, .int .u64 0, .int .u64 0, .int .u64 0, .int .u64 0, .int .u64 0, .int .u64 0, .int .u64 0, .int .u64 0, .int .u64 0, .int .u64 0, .int .u64 0, .int .u64 0, .int .u64 0, .int .u64 0, .int .u64 0, .int .u64 0, .int .u64 0, .int .u64 0, .int .u64 0] 29)).heap[w.heap.size]? = some (.cells k 23 (0, 0)) := hp2_0 w _ _
 have rp1 : ((w.alloc (.cells k 23)).alloc (.cells #[.int .u64 0, .int .u64 0, .int .u64 0, .int .u64 0, .int .u64 0, .int .u64 0, .int .u64 0, .int .u64 0, .int .u64 0, .int .u64 0, .int .u64 0, .int .u64 0, .int .u64 0, .int .u64 0, .int .u64 0, .int .u64 0, .int .u64 0, .int .u64 0, .int .u64 0, .int .u64 0] 29)).heap[w.heap.size + 1]? = some (.cells #[.int .u64 0, .int .u64 0, .int .u64 0, .int .u64 0, .int .u64 0, .int .u64 0, .int .u64 0, .int .u64 0, .int .u64 0, .int .u64 0, .int .u64 0, .int .u64 0, .int .u64 0, .int .u64 0, .int .u64 0, .int .u64 0, .int .u64 0, .int .u64 0, .int .u64 0, .int .u64 0] 29 (0, 0)) := hp2_1 w _ _
 have hw : Below w.heap.size w ((w.alloc (.cells k 23)).alloc (.cells #[.int .u64 0, .int .u64 0, .int .u64 0, .int .u64 0, .int .u64 0, .int .u64 0, .int .u64 0, .int .u64 0, .int .u64 0, .int .u64 0, .int .u64 0, .int .u64 0, .int .u64 0, .int .u64 0, .int .u64 0, .int .u64 0, .int .u64 0, .int .u64 0, .int .u64 0, .int .u64 0] 29)) := (((Below.refl _ _).alloc (Nat.le_refl _) _).alloc (by simp) _)
 have hz0 := hF.sz
 have f4 : Both ((w.alloc (.cells k 23)).alloc (.cells #[.int .u64 0, .int .u64 0, .int .u64 0, .int .u64 0, .int .u64 0, .int .u64 0, .int .u64 0, .int .u64 0, .int .u64 0, .int .u64 0, .int .u64 0, .int .u64 0, .int .u64 0, .int .u64 0, .int .u64 0, .int .u64 0, .int .u64 0, .int .u64 0, .int .u64 0, .int .u64 0] 29)) := ((hF.alloc _).alloc _)
 go_enter Tryd.func14, Tryd.ntmps14
 iterate 12 go_step
 generalize ((w.alloc (.cells k 23)).alloc (.cells #[.int .u64 0, .int .u64 0, .int .u64 0, .int .u64 0, .int .u64 0, .int .u64 0, .int .u64 0, .int .u64 0, .int .u64 0, .int .u64 0, .int .u64 0, .int .u64 0, .int .u64 0, .int .u64 0, .int .u64 0, .int .u64 0, .int .u64 0, .int .u64 0, .int .u64 0, .int .u64 0] 29)) = w0 at *
 go_wp2_with (first | (refine wpList_load_want rfl 23 _ rfl (w.heap.size) rfl 23 k (0, 0) _ rp0 Tryd.underlying23 rfl hk.info ?_) | (refine wpList_load_want rfl 29 _ rfl (w.heap.size + 1) rfl 29 #[.int .u64 0, .int .u64 0, .int .u64 0, .int .u64 0, .int .u64 0, .int .u64 0, .int .u64 0, .int .u64 0, .int .u64 0, .int .u64 0, .int .u64 0, .int .u64 0, .int .u64 0, .int .u64 0, .int .u64 0, .int .u64 0, .int .u64 0, .int .u64 0, .int .u64 0, .int .u64 0] (0, 0) _ rp1 Tryd.underlying29 rfl (by kernel_rfl) ?_) | fail)
 refine (cF.at _).mono ?_
 rintro e w2 ⟨rfl, hb⟩
 replace rp0 := keep hb rp0
 replace rp1 := keep hb rp1
 replace hw := Below.after hw hb
 replace f4 := f4.below hb
 clear hb
 go_wp2_with (first | (refine wpList_load_want rfl 23 _ rfl (w.heap.size) rfl 23 k (0, 0) _ rp0 Tryd.underlying23 rfl hk.info ?_) | (refine wpList_load_want rfl 29 _ rfl (w.heap.size + 1) rfl 29 #[.int .u64 0, .int .u64 0, .int .u64 0, .int .u64 0, .int .u64 0, .int .u64 0, .int .u64 0, .int .u64 0, .int .u64 0, .int .u64 0, .int .u64 0, .int .u64 0, .int .u64 0, .int .u64 0, .int .u64 0, .int .u64 0, .int .u64 0, .int .u64 0, .int .u64 0, .int .u64 0] (0, 0) _ rp1 Tryd.underlying29 rfl (by kernel_rfl) ?_) | fail)
 refine (c3.at _).mono ?_
 rintro e w4 ⟨rfl, hb⟩
 replace rp0 := keep hb rp0
 replace rp1 := keep hb rp1
 replace hw := Below.after hw hb
 replace f4 := f4.below hb
 clear hb
 go_wp2_with (first | (refine wpList_store_row rfl 27 _ _ rfl (w4.heap.size) ur rfl rfl 27 #[.int .u64 0, .int .u64 0, .int .u64 0, .int .u64 0, .int .u64 0] (hp2_0 w4 _ _) hu.info (hu.fits rfl) hu.one ?_; rw [setRow_alloc_old _ _ _ _ (by simp), setRow_alloc_new _ _ _ _ _ _ (by simp)]) | (refine wpList_store_row rfl 27 _ _ rfl (w4.heap.size + 1) x3 rfl rfl 27 #[.int .u64 0, .int .u64 0, .int .u64 0, .int .u64 0, .int .u64 0] (hp2_1 w4 _ _) h3.info (h3.fits rfl) h3.one ?_; rw [setRow_alloc_new _ _ _ _ _ _ (by simp)]; refine wpList_stay ?_) | fail)
 unfold WpStay
 try simp only [Act.put]
 have rl6 : ((w4.alloc (.cells ur 27)).alloc (.cells x3 27)).heap[w4.heap.size]? = some (.cells ur 27 (0, 0)) := hp2_0 w4 _ _
 have rl7 : ((w4.alloc (.cells ur 27)).alloc (.cells x3 27)).heap[w4.heap.size + 1]? = some (.cells x3 27 (0, 0)) := hp2_1 w4 _ _
 have hb : Below w4.heap.size w4 ((w4.alloc (.cells ur 27)).alloc (.cells x3 27)) := (((Below.refl _ _).alloc (Nat.le_refl _) _).alloc (by simp) _)
 generalize ((w4.alloc (.cells ur 27)).alloc (.cells x3 27)) = wu at *
 have ygu_0 := lt_of_row rp0
 have ygu_1 := lt_of_row rp1
 have ygu := hw.size
 have zgu := f4.sz
 replace rp0 := keep hb rp0
 replace rp1 := keep hb rp1
 replace hw := Below.after hw hb
 replace f4 := f4.below hb
 clear hb
 generalize w4.heap.size = gu at *
 clear w4
 go_wp2_with (first | (refine wpList_load_want rfl 23 _ rfl (w.heap.size) rfl 23 k (0, 0) _ rp0 Tryd.underlying23 rfl hk.info ?_) | (refine wpList_load_want rfl 29 _ rfl (w.heap.size + 1) rfl 29 #[.int .u64 0, .int .u64 0, .int .u64 0, .int .u64 0, .int .u64 0, .int .u64 0, .int .u64 0, .int .u64 0, .int .u64 0, .int .u64 0, .int .u64 0, .int .u64 0, .int .u64 0, .int .u64 0, .int .u64 0, .int .u64 0, .int .u64 0, .int .u64 0, .int .u64 0, .int .u64 0] (0, 0) _ rp1 Tryd.underlying29 rfl (by kernel_rfl) ?_) | (refine wpList_load_want rfl 27 _ rfl (gu) rfl 27 ur (0, 0) _ rl6 Tryd.underlying27 rfl hu.info ?_) | (refine wpList_load_want rfl 27 _ rfl (gu + 1) rfl 27 x3 (0, 0) _ rl7 Tryd.underlying27 rfl h3.info ?_) | fail)
 refine (c5.at _).mono ?_
 rintro e w6 ⟨rfl, hb⟩
 replace rp0 := keep hb rp0
 replace rp1 := keep hb rp1
 replace rl6 := keep hb rl6
 replace rl7 := keep hb rl7
 replace hw := Below.after hw hb
 replace f4 := f4.below hb
 clear hb
 go_wp2_with (first | (refine wpList_store_row rfl 27 _ _ rfl (w6.heap.size) x5 rfl rfl 27 #[.int .u64 0, .int .u64 0, .int .u64 0, .int .u64 0, .int .u64 0] (hp1_0 w6 _) h5.info (h5.fits rfl) h5.one ?_; rw [setRow_alloc_new _ _ _ _ _ _ (by simp)]; refine wpList_stay ?_) | fail)
 unfold WpStay
 try simp only [Act.put]
 have rl8 : (w6.alloc (.cells x5 27)).heap[w6.heap.size]? = some (.cells x5 27 (0, 0)) := hp1_0 w6 _
 have hb : Below w6.heap.size w6 (w6.alloc (.cells x5 27)) := ((Below.refl _ _).alloc (Nat.le_refl _) _)
 generalize (w6.alloc (.cells x5 27)) = wb at *
 have ygb_0 := lt_of_row rp0
 have ygb_1 := lt_of_row rp1
 have ygb_2 := lt_of_row rl6
 have ygb_3 := lt_of_row rl7
 have ygb := hw.size
 have zgb := f4.sz
 replace rp0 := keep hb rp0
 replace rp1 := keep hb rp1
 replace rl6 := keep hb rl6
 replace rl7 := keep hb rl7
 replace hw := Below.after hw hb
 replace f4 := f4.below hb
 clear hb
 generalize w6.heap.size = gb at *
 clear w6
 go_wp2_with (first | (refine wpList_load_want rfl 23 _ rfl (w.heap.size) rfl 23 k (0, 0) _ rp0 Tryd.underlying23 rfl hk.info ?_) | (refine wpList_load_want rfl 29 _ rfl (w.heap.size + 1) rfl 29 #[.int .u64 0, .int .u64 0, .int .u64 0, .int .u64 0, .int .u64 0, .int .u64 0, .int .u64 0, .int .u64 0, .int .u64 0, .int .u64 0, .int .u64 0, .int .u64 0, .int .u64 0, .int .u64 0, .int .u64 0, .int .u64 0, .int .u64 0, .int .u64 0, .int .u64 0, .int .u64 0] (0, 0) _ rp1 Tryd.underlying29 rfl (by kernel_rfl) ?_) | (refine wpList_load_want rfl 27 _ rfl (gu) rfl 27 ur (0, 0) _ rl6 Tryd.underlying27 rfl hu.info ?_) | (refine wpList_load_want rfl 27 _ rfl (gu + 1) rfl 27 x3 (0, 0) _ rl7 Tryd.underlying27 rfl h3.info ?_) | (refine wpList_load_want rfl 27 _ rfl (gb) rfl 27 x5 (0, 0) _ rl8 Tryd.underlying27 rfl h5.info ?_) | fail)
 refine (c7.at _).mono ?_
 rintro e w8 ⟨rfl, hb⟩
 replace rp0 := keep hb rp0
 replace rp1 := keep hb rp1
 replace rl6 := keep hb rl6
 replace rl7 := keep hb rl7
 replace rl8 := keep hb rl8
 replace hw := Below.after hw hb
 replace f4 := f4.below hb
 clear hb
 go_wp2_with (first | (refine wpList_build_as rfl 29 _ rfl [] rfl #[.int .u64 0, .int .u64 0, .int .u64 0, .int .u64 0, .int .u64 0, .int .u64 0, .int .u64 0, .int .u64 0, .int .u64 0, .int .u64 0, .int .u64 0, .int .u64 0, .int .u64 0, .int .u64 0, .int .u64 0, .int .u64 0, .int .u64 0, .int .u64 0, .int .u64 0, .int .u64 0] (by kernel_rfl) ?_) | (refine wpList_store_row rfl 29 _ _ rfl (w.heap.size + 1) #[.int .u64 0, .int .u64 0, .int .u64 0, .int .u64 0, .int .u64 0, .int .u64 0, .int .u64 0, .int .u64 0, .int .u64 0, .int .u64 0, .int .u64 0, .int .u64 0, .int .u64 0, .int .u64 0, .int .u64 0, .int .u64 0, .int .u64 0, .int .u64 0, .int .u64 0, .int .u64 0] rfl rfl 29 _ rp1 (by kernel_rfl) rfl (by kernel_rfl) ?_) | fail)
 exact bodyPost_ret (v := .tuple #[.agg #[.int .u64 0, .int .u64 0, .int .u64 0, .int .u64 0, .int .u64 0, .int .u64 0, .int .u64 0, .int .u64 0, .int .u64 0, .int .u64 0, .int .u64 0, .int .u64 0, .int .u64 0, .int .u64 0, .int .u64 0, .int .u64 0, .int .u64 0, .int .u64 0, .int .u64 0, .int .u64 0], .int .i64 190]) (results_row_slot Tryd.results14 _ _ (w.heap.size + 1) _ #[.int .u64 0, .int .u64 0, .int .u64 0, .int .u64 0, .int .u64 0, .int .u64 0, .int .u64 0, .int .u64 0, .int .u64 0, .int .u64 0, .int .u64 0, .int .u64 0, .int .u64 0, .int .u64 0, .int .u64 0, .int .u64 0, .int .u64 0, .int .u64 0, .int .u64 0, .int .u64 0] _ _ _ rfl (setRow_heap _ _ _ _ _ _ rp1) rfl Tryd.underlying29 rfl (by kernel_rfl)) rfl ⟨rfl, below_setRow hw (by omega) _⟩
set_option maxRecDepth 100000 in
set_option maxHeartbeats 8000000 in
theorem lift_some {k ur : Array Value} {N U : Int} {odd : Bool} {Q : E1} (hk : KeyOf k N) (hu : NumOf ur U) (cF : Gives 46 #[.agg k] (.agg ur)) (hz : decide ((U + 1) % prm = 0) = false) (hB : ∀ r, NumOf r ((U - 1) * iv (U + 1)) → (∃ t, PtO t Q ∧ Gives5 64 #[.agg r, .bool odd] (.tuple #[.agg t, .int .i64 0]))) : ∃ t, PtO t Q ∧ Gives5 14 #[.agg k, .bool odd] (.tuple #[.agg t, .int .i64 0]) := by
 obtain ⟨x3, h3, c3⟩ := a_small 1 (by decide) (by decide)
 obtain ⟨x5, h5, c5⟩ := a_add hu h3
 have c7 := a_isZero h5
 rw [hz] at c7
 obtain ⟨x9, h9, c9⟩ := a_sub hu h3
 obtain ⟨x10, h10, c10⟩ := a_inv h5
 obtain ⟨x11, h11, c11⟩ := a_mul h9 h10
 obtain ⟨t, ht, cS⟩ := hB _ h11
 refine ⟨t, ht, ?_⟩
 intro w hF
 have rp0 : ((w.alloc (.cells k 23)).alloc (.cells #[.int .u64 0, .int .u64 0, .int .u64 0, .int .u64 0, .int .u64 0, .int .u64 0, .int .u64 0, .int .u64 0, .int .u64 0, .int .u64 0, .int .u64 0, .int .u64 0, .int .u64 0, .int .u64 0, .int .u64 0, .int .u64 0, .int .u64 0, .int .u64 0, .int .u64 0, .int .u64 0] 29)).heap[w.heap.size]? = some (.cells k 23 (0, 0)) := hp2_0 w _ _
 have rp1 : ((w.alloc (.cells k 23)).alloc (.cells #[.int .u64 0, .int .u64 0, .int .u64 0, .int .u64 0, .int .u64 0, .int .u64 0, .int .u64 0, .int .u64 0, .int .u64 0, .int .u64 0, .int .u64 0, .int .u64 0, .int .u64 0, .int .u64 0, .int .u64 0, .int .u64 0, .int .u64 0, .int .u64 0, .int .u64 0, .int .u64 0] 29)).heap[w.heap.size + 1]? = some (.cells #[.int .u64 0, .int .u64 0, .int .u64 0, .int .u64 0, .int .u64 0, .int .u64 0, .int .u64 0, .int .u64 0, .int .u64 0, .int .u64 0, .int .u64 0, .int .u64 0, .int .u64 0, .int .u64 0, .int .u64 0, .int .u64 0, .int .u64 0, .int .u64 0, .int .u64 0, .int .u64 0] 29 (0, 0)) := hp2_1 w _ _
 have hw : Below w.heap.size w ((w.alloc (.cells k 23)).alloc (.cells #[.int .u64 0, .int .u64 0, .int .u64 0, .int .u64 0, .int .u64 0, .int .u64 0, .int .u64 0, .int .u64 0, .int .u64 0, .int .u64 0, .int .u64 0, .int .u64 0, .int .u64 0, .int .u64 0, .int .u64 0, .int .u64 0, .int .u64 0, .int .u64 0, .int .u64 0, .int .u64 0] 29)) := (((Below.refl _ _).alloc (Nat.le_refl _) _).alloc (by simp) _)
 have hz0 := hF.sz
 have f4 : Both ((w.alloc (.cells k 23)).alloc (.cells #[.int .u64 0, .int .u64 0, .int .u64 0, .int .u64 0, .int .u64 0, .int .u64 0, .int .u64 0, .int .u64 0, .int .u64 0, .int .u64 0, .int .u64 0, .int .u64 0, .int .u64 0, .int .u64 0, .int .u64 0, .int .u64 0, .int .u64 0, .int .u64 0, .int .u64 0, .int .u64 0] 29)) := ((hF.alloc _).alloc _)
 go_enter Tryd.func14, Tryd.ntmps14
 iterate 12 go_step
 generalize ((w.alloc (.cells k 23)).alloc (.cells #[.int .u64 0, .int .u64 0, .int .u64 0, .int .u64 0, .int .u64 0, .int .u64 0, .int .u64 0, .int .u64 0, .int .u64 0, .int .u64 0, .int .u64 0, .int .u64 0, .int .u64 0, .int .u64 0, .int .u64 0, .int .u64 0, .int .u64 0, .int .u64 0, .int .u64 0, .int .u64 0] 29)) = w0 at *
 go_wp2_with (first | (refine wpList_load_want rfl 23 _ rfl (w.heap.size) rfl 23 k (0, 0) _ rp0 Tryd.underlying23 rfl hk.info ?_) | (refine wpList_load_want rfl 29 _ rfl (w.heap.size + 1) rfl 29 #[.int .u64 0, .int .u64 0, .int .u64 0, .int .u64 0, .int .u64 0, .int .u64 0, .int .u64 0, .int .u64 0, .int .u64 0, .int .u64 0, .int .u64 0, .int .u64 0, .int .u64 0, .int .u64 0, .int .u64 0, .int .u64 0, .int .u64 0, .int .u64 0, .int .u64 0, .int .u64 0] (0, 0) _ rp1 Tryd.underlying29 rfl (by kernel_rfl) ?_) | fail)
 refine (cF.at _).mono ?_
 rintro e w2 ⟨rfl, hb⟩
 replace rp0 := keep hb rp0
 replace rp1 := keep hb rp1
 replace hw := Below.after hw hb
 replace f4 := f4.below hb
 clear hb
 go_wp2_with (first | (refine wpList_load_want rfl 23 _ rfl (w.heap.size) rfl 23 k (0, 0) _ rp0 Tryd.underlying23 rfl hk.info ?_) | (refine wpList_load_want rfl 29 _ rfl (w.heap.size + 1) rfl 29 #[.int .u64 0, .int .u64 0, .int .u64 0, .int .u64 0, .int .u64 0, .int .u64 0, .int .u64 0, .int .u64 0, .int .u64 0, .int .u64 0, .int .u64 0, .int .u64 0, .int .u64 0, .int .u64 0, .int .u64 0, .int .u64 0, .int .u64 0, .int .u64 0, .int .u64 0, .int .u64 0] (0, 0) _ rp1 Tryd.underlying29 rfl (by kernel_rfl) ?_) | fail)
 refine (c3.at _).mono ?_
 rintro e w4 ⟨rfl, hb⟩
 replace rp0 := keep hb rp0
 replace rp1 := keep hb rp1
 replace hw := Below.after hw hb
 replace f4 := f4.below hb
 clear hb
 go_wp2_with (first | (refine wpList_store_row rfl 27 _ _ rfl (w4.heap.size) ur rfl rfl 27 #[.int .u64 0, .int .u64 0, .int .u64 0, .int .u64 0, .int .u64 0] (hp2_0 w4 _ _) hu.info (hu.fits rfl) hu.one ?_; rw [setRow_alloc_old _ _ _ _ (by simp), setRow_alloc_new _ _ _ _ _ _ (by simp)]) | (refine wpList_store_row rfl 27 _ _ rfl (w4.heap.size + 1) x3 rfl rfl 27 #[.int .u64 0, .int .u64 0, .int .u64 0, .int .u64 0, .int .u64 0] (hp2_1 w4 _ _) h3.info (h3.fits rfl) h3.one ?_; rw [setRow_alloc_new _ _ _ _ _ _ (by simp)]; refine wpList_stay ?_) | fail)
 unfold WpStay
 try simp only [Act.put]
 have rl6 : ((w4.alloc (.cells ur 27)).alloc (.cells x3 27)).heap[w4.heap.size]? = some (.cells ur 27 (0, 0)) := hp2_0 w4 _ _
 have rl7 : ((w4.alloc (.cells ur 27)).alloc (.cells x3 27)).heap[w4.heap.size + 1]? = some (.cells x3 27 (0, 0)) := hp2_1 w4 _ _
 have hb : Below w4.heap.size w4 ((w4.alloc (.cells ur 27)).alloc (.cells x3 27)) := (((Below.refl _ _).alloc (Nat.le_refl _) _).alloc (by simp) _)
 generalize ((w4.alloc (.cells ur 27)).alloc (.cells x3 27)) = wu at *
 have ygu_0 := lt_of_row rp0
 have ygu_1 := lt_of_row rp1
 have ygu := hw.size
 have zgu := f4.sz
 replace rp0 := keep hb rp0
 replace rp1 := keep hb rp1
 replace hw := Below.after hw hb
 replace f4 := f4.below hb
 clear hb
 generalize w4.heap.size = gu at *
 clear w4
 go_wp2_with (first | (refine wpList_load_want rfl 23 _ rfl (w.heap.size) rfl 23 k (0, 0) _ rp0 Tryd.underlying23 rfl hk.info ?_) | (refine wpList_load_want rfl 29 _ rfl (w.heap.size + 1) rfl 29 #[.int .u64 0, .int .u64 0, .int .u64 0, .int .u64 0, .int .u64 0, .int .u64 0, .int .u64 0, .int .u64 0, .int .u64 0, .int .u64 0, .int .u64 0, .int .u64 0, .int .u64 0, .int .u64 0, .int .u64 0, .int .u64 0, .int .u64 0, .int .u64 0, .int .u64 0, .int .u64 0] (0, 0) _ rp1 Tryd.underlying29 rfl (by kernel_rfl) ?_) | (refine wpList_load_want rfl 27 _ rfl (gu) rfl 27 ur (0, 0) _ rl6 Tryd.underlying27 rfl hu.info ?_) | (refine wpList_load_want rfl 27 _ rfl (gu + 1) rfl 27 x3 (0, 0) _ rl7 Tryd.underlying27 rfl h3.info ?_) | fail)
 refine (c5.at _).mono ?_
 rintro e w6 ⟨rfl, hb⟩
 replace rp0 := keep hb rp0
 replace rp1 := keep hb rp1
 replace rl6 := keep hb rl6
 replace rl7 := keep hb rl7
 replace hw := Below.after hw hb
 replace f4 := f4.below hb
 clear hb
 go_wp2_with (first | (refine wpList_store_row rfl 27 _ _ rfl (w6.heap.size) x5 rfl rfl 27 #[.int .u64 0, .int .u64 0, .int .u64 0, .int .u64 0, .int .u64 0] (hp1_0 w6 _) h5.info (h5.fits rfl) h5.one ?_; rw [setRow_alloc_new _ _ _ _ _ _ (by simp)]; refine wpList_stay ?_) | fail)
 unfold WpStay
 try simp only [Act.put]
 have rl8 : (w6.alloc (.cells x5 27)).heap[w6.heap.size]? = some (.cells x5 27 (0, 0)) := hp1_0 w6 _
 have hb : Below w6.heap.size w6 (w6.alloc (.cells x5 27)) := ((Below.refl _ _).alloc (Nat.le_refl _) _)
 generalize (w6.alloc (.cells x5 27)) = wb at *
 have ygb_0 := lt_of_row rp0
 have ygb_1 := lt_of_row rp1
 have ygb_2 := lt_of_row rl6
 have ygb_3 := lt_of_row rl7
 have ygb := hw.size
 have zgb := f4.sz
 replace rp0 := keep hb rp0
 replace rp1 := keep hb rp1
 replace rl6 := keep hb rl6
 replace rl7 := keep hb rl7
 replace hw := Below.after hw hb
 replace f4 := f4.below hb
 clear hb
 generalize w6.heap.size = gb at *
 clear w6
 go_wp2_with (first | (refine wpList_load_want rfl 23 _ rfl (w.heap.size) rfl 23 k (0, 0) _ rp0 Tryd.underlying23 rfl hk.info ?_) | (refine wpList_load_want rfl 29 _ rfl (w.heap.size + 1) rfl 29 #[.int .u64 0, .int .u64 0, .int .u64 0, .int .u64 0, .int .u64 0, .int .u64 0, .int .u64 0, .int .u64 0, .int .u64 0, .int .u64 0, .int .u64 0, .int .u64 0, .int .u64 0, .int .u64 0, .int .u64 0, .int .u64 0, .int .u64 0, .int .u64 0, .int .u64 0, .int .u64 0] (0, 0) _ rp1 Tryd.underlying29 rfl (by kernel_rfl) ?_) | (refine wpList_load_want rfl 27 _ rfl (gu) rfl 27 ur (0, 0) _ rl6 Tryd.underlying27 rfl hu.info ?_) | (refine wpList_load_want rfl 27 _ rfl (gu + 1) rfl 27 x3 (0, 0) _ rl7 Tryd.underlying27 rfl h3.info ?_) | (refine wpList_load_want rfl 27 _ rfl (gb) rfl 27 x5 (0, 0) _ rl8 Tryd.underlying27 rfl h5.info ?_) | fail)
 refine (c7.at _).mono ?_
 rintro e w8 ⟨rfl, hb⟩
 replace rp0 := keep hb rp0
 replace rp1 := keep hb rp1
 replace rl6 := keep hb rl6
 replace rl7 := keep hb rl7
 replace rl8 := keep hb rl8
 replace hw := Below.after hw hb
 replace f4 := f4.below hb
 clear hb
 go_wp2_with (fail)
 have hbd : Below w8.heap.size w8 w8.drew := below_drN (Below.refl _ _) 1
 replace rp0 := keep hbd rp0
 replace rp1 := keep hbd rp1
 replace rl6 := keep hbd rl6
 replace rl7 := keep hbd rl7
 replace rl8 := keep hbd rl8
 replace hw := Below.after hw hbd
 replace f4 := f4.below hbd
 clear hbd
 refine wp_region_noPanic ?_
 refine wp_region_held (S := fun W_ => W_.heap[gu]? = some (.cells ur 27 (0, 0)) ∧ W_.heap[gu + 1]? = some (.cells x3 27 (0, 0)) ∧ W_.heap[gb]? = some (.cells x5 27 (0, 0))) (by kernel_rfl) ?_
 change wpAnyH _ _ _ _ _ _ _ _ (World.drew _)
 generalize w8.drew = wd1 at *
 refine wpAnyH_take (i := 0) (v := .agg ur) rfl (by kernel_rfl) (by kernel_rfl) (by kernel_rfl) (fun _ _ _ h => h) (Or.inl ⟨by rfl, ?y2⟩) (⟨rl6, rl7, rl8⟩) ?r2
 case y2 =>
  intro w_ hS_
  simp only [List.getElem_toArray, List.getElem_cons_zero]
  exact e_load_part 27 _ (by rfl) (gu) 0 (by rfl) 27 ur (0, 0) ur _ (hS_.1) (all_rowe _) Tryd.underlying27 rfl hu.info
 simp only [Act.put, List.getElem_toArray, List.getElem_cons_zero, List.setIfInBounds_toArray, List.set_cons_succ, List.set_cons_zero]
 refine wpAnyH_take (i := 1) (v := .agg x3) rfl (by kernel_rfl) (by kernel_rfl) (by kernel_rfl) (fun _ _ _ h => h) (Or.inl ⟨by rfl, ?y3⟩) (⟨rl6, rl7, rl8⟩) ?r3
 case y3 =>
  intro w_ hS_
  simp only [List.getElem_toArray, List.getElem_cons_succ, List.getElem_cons_zero]
  exact e_load_part 27 _ (by rfl) (gu + 1) 0 (by rfl) 27 x3 (0, 0) x3 _ (hS_.2.1) (all_rowe _) Tryd.underlying27 rfl h3.info
 simp only [Act.put, List.getElem_toArray, List.getElem_cons_succ, List.getElem_cons_zero, List.setIfInBounds_toArray, List.set_cons_succ, List.set_cons_zero]
 refine wpAnyH_take (i := 3) (v := .agg x5) rfl (by kernel_rfl) (by kernel_rfl) (by kernel_rfl) (fun _ _ _ h => h) (Or.inl ⟨by rfl, ?y4⟩) (⟨rl6, rl7, rl8⟩) ?r4
 case y4 =>
  intro w_ hS_
  simp only [List.getElem_toArray, List.getElem_cons_succ, List.getElem_cons_zero]
  exact e_load_part 27 _ (by rfl) (gb) 0 (by rfl) 27 x5 (0, 0) x5 _ (hS_.2.2) (all_rowe _) Tryd.underlying27 rfl h5.info
 simp only [Act.put, List.getElem_toArray, List.getElem_cons_succ, List.getElem_cons_zero, List.setIfInBounds_toArray, List.set_cons_succ, List.set_cons_zero]
 refine wpAnyH_take (i := 6) (v := ?v5) rfl (by kernel_rfl) (by kernel_rfl) (by kernel_rfl) (fun _ _ _ h => h) (Or.inl ⟨by rfl, ?y5⟩) (⟨rl6, rl7, rl8⟩) ?r5
 case y5 =>
  intro w_ hS_
  go_simp
  try with_reducible rfl
 simp only [Act.put, List.getElem_toArray, List.getElem_cons_succ, List.getElem_cons_zero, List.setIfInBounds_toArray, List.set_cons_succ, List.set_cons_zero]
 refine eH_one (k := 2) (fuel := 7) (by kernel_rfl) rfl (by kernel_rfl) (fun K_ hK_ => ?_)
 refine wp_call_ex (f := 52) (by kernel_rfl) (ex1e (c9.at f4.1)) (fun v_ wq6 hX_ => ?_)
 obtain ⟨rfl, hb_⟩ := hX_
 replace rp0 := keep hb_ rp0
 replace rp1 := keep hb_ rp1
 replace rl6 := keep hb_ rl6
 replace rl7 := keep hb_ rl7
 replace rl8 := keep hb_ rl8
 replace hw := Below.after hw hb_
 replace f4 := f4.below hb_
 clear hb_
 refine hK_ _ _ (⟨rl6, rl7, rl8⟩) ?_
 simp only [Act.put, List.getElem_toArray, List.getElem_cons_succ, List.getElem_cons_zero, List.setIfInBounds_toArray, List.set_cons_succ, List.set_cons_zero]
 clear hK_
 refine eH_one (k := 4) (fuel := 6) (by kernel_rfl) rfl (by kernel_rfl) (fun K_ hK_ => ?_)
 refine wp_call_ex (f := 50) (by kernel_rfl) (ex1e (c10.at _)) (fun v_ wq7 hX_ => ?_)
 obtain ⟨rfl, hb_⟩ := hX_
 replace rp0 := keep hb_ rp0
 replace rp1 := keep hb_ rp1
 replace rl6 := keep hb_ rl6
 replace rl7 := keep hb_ rl7
 replace rl8 := keep hb_ rl8
 replace hw := Below.after hw hb_
 replace f4 := f4.below hb_
 clear hb_
 refine hK_ _ _ (⟨rl6, rl7, rl8⟩) ?_
 simp only [Act.put, List.getElem_toArray, List.getElem_cons_succ, List.getElem_cons_zero, List.setIfInBounds_toArray, List.set_cons_succ, List.set_cons_zero]
 clear hK_
 refine eH_one (k := 5) (fuel := 5) (by kernel_rfl) rfl (by kernel_rfl) (fun K_ hK_ => ?_)
 refine wp_call_ex (f := 49) (by kernel_rfl) (ex1e (c11.at _)) (fun v_ wq8 hX_ => ?_)
 obtain ⟨rfl, hb_⟩ := hX_
 replace rp0 := keep hb_ rp0
 replace rp1 := keep hb_ rp1
 replace rl6 := keep hb_ rl6
 replace rl7 := keep hb_ rl7
 replace rl8 := keep hb_ rl8
 replace hw := Below.after hw hb_
 replace f4 := f4.below hb_
 clear hb_
 refine hK_ _ _ (⟨rl6, rl7, rl8⟩) ?_
 simp only [Act.put, List.getElem_toArray, List.getElem_cons_succ, List.getElem_cons_zero, List.setIfInBounds_toArray, List.set_cons_succ, List.set_cons_zero]
 clear hK_
 refine eH_one (k := 7) (fuel := 4) (by kernel_rfl) rfl (by kernel_rfl) (fun K_ hK_ => ?_)
 refine wp_call_ex (f := 64) (by kernel_rfl) (ex1e (cS.at f4)) (fun v_ wq9 hX_ => ?_)
 obtain ⟨rfl, hb_⟩ := hX_
 replace rp0 := keep hb_ rp0
 replace rp1 := keep hb_ rp1
 replace rl6 := keep hb_ rl6
 replace rl7 := keep hb_ rl7
 replace rl8 := keep hb_ rl8
 replace hw := Below.after hw hb_
 replace f4 := f4.below hb_
 clear hb_
 refine hK_ _ _ (⟨rl6, rl7, rl8⟩) ?_
 simp only [Act.put, List.getElem_toArray, List.getElem_cons_succ, List.getElem_cons_zero, List.setIfInBounds_toArray, List.set_cons_succ, List.set_cons_zero]
 clear hK_
 refine wpAnyH_take (i := 8) (v := ?v10) rfl (by kernel_rfl) (by kernel_rfl) (by kernel_rfl) (fun _ _ _ h => h) (Or.inl ⟨by rfl, ?y10⟩) (⟨rl6, rl7, rl8⟩) ?r10
 case y10 =>
  intro w_ hS_
  go_simp
  try with_reducible rfl
 simp only [Act.put, List.getElem_toArray, List.getElem_cons_succ, List.getElem_cons_zero, List.setIfInBounds_toArray, List.set_cons_succ, List.set_cons_zero]
 refine wpAnyH_take (i := 9) (v := ?v11) rfl (by kernel_rfl) (by kernel_rfl) (by kernel_rfl) (fun _ _ _ h => h) (Or.inl ⟨by rfl, ?y11⟩) (⟨rl6, rl7, rl8⟩) ?r11
 case y11 =>
  intro w_ hS_
  go_simp
  try with_reducible rfl
 simp only [Act.put, List.getElem_toArray, List.getElem_cons_succ, List.getElem_cons_zero, List.setIfInBounds_toArray, List.set_cons_succ, List.set_cons_zero]
 refine eH_one (k := 10) (fuel := 1) (by kernel_rfl) rfl (by kernel_rfl) (fun K_ hK_ => ?_)
 refine wp_store_row 29 _ _ rfl (w.heap.size + 1) t rfl rfl 29 _ rp1 ht.info ((show _ = 20 from rfl).trans ht.size.symm) ht.one ?_
 replace rp0 := (setRow_other wq9 (w.heap.size + 1) (w.heap.size) t (by first | assumption | omega)).trans rp0
 replace rl6 := (setRow_other wq9 (w.heap.size + 1) (gu) t (by first | assumption | omega)).trans rl6
 replace rl7 := (setRow_other wq9 (w.heap.size + 1) (gu + 1) t (by first | assumption | omega)).trans rl7
 replace rl8 := (setRow_other wq9 (w.heap.size + 1) (gb) t (by first | assumption | omega)).trans rl8
 replace rp1 := setRow_heap wq9 (w.heap.size + 1) _ t _ _ rp1
 replace hw := below_setRow hw (show w.heap.size ≤ w.heap.size + 1 by first | assumption | omega) t
 replace f4 := f4.setRow (show 4 < w.heap.size + 1 by first | assumption | omega) t
 generalize wq9.setRow (w.heap.size + 1) t = wq12 at *
 refine hK_ _ _ (⟨rl6, rl7, rl8⟩) ?_
 simp only [Act.put]
 clear hK_
 refine wpAnyH_take (i := 11) (v := ?v13) rfl (by kernel_rfl) (by kernel_rfl) (by kernel_rfl) (fun _ _ _ h => h) (Or.inl ⟨by rfl, ?y13⟩) (⟨rl6, rl7, rl8⟩) ?r13
 case y13 =>
  intro w_ hS_
  go_simp
  try with_reducible rfl
 simp only [Act.put, List.getElem_toArray, List.getElem_cons_succ, List.getElem_cons_zero, List.setIfInBounds_toArray, List.set_cons_succ, List.set_cons_zero]
 refine wpAnyH_done (by kernel_rfl) ?_ _
 refine NoPanic.normal ?_
 go_wp2_with (fail)
 exact bodyPost_ret (v := .tuple #[.agg t, .int .i64 0]) (results_row_slot Tryd.results14 _ _ (w.heap.size + 1) _ t _ _ _ rfl rp1 rfl Tryd.underlying29 rfl ht.info) rfl ⟨rfl, hw⟩
set_option maxRecDepth 100000 in
set_option maxHeartbeats 8000000 in
theorem lift_none {k ur : Array Value} {N U : Int} {odd : Bool} {Q : E1} (hk : KeyOf k N) (hu : NumOf ur U) (cF : Gives 46 #[.agg k] (.agg ur)) (hz : decide ((U + 1) % prm = 0) = false) (hB : ∀ r, NumOf r ((U - 1) * iv (U + 1)) → (∃ t, PtO t Q ∧ Gives5 64 #[.agg r, .bool odd] (.tuple #[.agg t, .int .i64 190]))) : ∃ t, PtO t Q ∧ Gives5 14 #[.agg k, .bool odd] (.tuple #[.agg t, .int .i64 190]) := by
 obtain ⟨x3, h3, c3⟩ := a_small 1 (by decide) (by decide)
 obtain ⟨x5, h5, c5⟩ := a_add hu h3
 have c7 := a_isZero h5
 rw [hz] at c7
 obtain ⟨x9, h9, c9⟩ := a_sub hu h3
 obtain ⟨x10, h10, c10⟩ := a_inv h5
 obtain ⟨x11, h11, c11⟩ := a_mul h9 h10
 obtain ⟨t, ht, cS⟩ := hB _ h11
 refine ⟨t, ht, ?_⟩
 intro w hF
 have rp0 : ((w.alloc (.cells k 23)).alloc (.cells #[.int .u64 0, .int .u64 0, .int .u64 0, .int .u64 0, .int .u64 0, .int .u64 0, .int .u64 0, .int .u64 0, .int .u64 0, .int .u64 0, .int .u64 0, .int .u64 0, .int .u64 0, .int .u64 0, .int .u64 0, .int .u64 0, .int .u64 0, .int .u64 0, .int .u64 0, .int .u64 0] 29)).heap[w.heap.size]? = some (.cells k 23 (0, 0)) := hp2_0 w _ _
 have rp1 : ((w.alloc (.cells k 23)).alloc (.cells #[.int .u64 0, .int .u64 0, .int .u64 0, .int .u64 0, .int .u64 0, .int .u64 0, .int .u64 0, .int .u64 0, .int .u64 0, .int .u64 0, .int .u64 0, .int .u64 0, .int .u64 0, .int .u64 0, .int .u64 0, .int .u64 0, .int .u64 0, .int .u64 0, .int .u64 0, .int .u64 0] 29)).heap[w.heap.size + 1]? = some (.cells #[.int .u64 0, .int .u64 0, .int .u64 0, .int .u64 0, .int .u64 0, .int .u64 0, .int .u64 0, .int .u64 0, .int .u64 0, .int .u64 0, .int .u64 0, .int .u64 0, .int .u64 0, .int .u64 0, .int .u64 0, .int .u64 0, .int .u64 0, .int .u64 0, .int .u64 0, .int .u64 0] 29 (0, 0)) := hp2_1 w _ _
 have hw : Below w.heap.size w ((w.alloc (.cells k 23)).alloc (.cells #[.int .u64 0, .int .u64 0, .int .u64 0, .int .u64 0, .int .u64 0, .int .u64 0, .int .u64 0, .int .u64 0, .int .u64 0, .int .u64 0, .int .u64 0, .int .u64 0, .int .u64 0, .int .u64 0, .int .u64 0, .int .u64 0, .int .u64 0, .int .u64 0, .int .u64 0, .int .u64 0] 29)) := (((Below.refl _ _).alloc (Nat.le_refl _) _).alloc (by simp) _)
 have hz0 := hF.sz
 have f4 : Both ((w.alloc (.cells k 23)).alloc (.cells #[.int .u64 0, .int .u64 0, .int .u64 0, .int .u64 0, .int .u64 0, .int .u64 0, .int .u64 0, .int .u64 0, .int .u64 0, .int .u64 0, .int .u64 0, .int .u64 0, .int .u64 0, .int .u64 0, .int .u64 0, .int .u64 0, .int .u64 0, .int .u64 0, .int .u64 0, .int .u64 0] 29)) := ((hF.alloc _).alloc _)
 go_enter Tryd.func14, Tryd.ntmps14
 iterate 12 go_step
 generalize ((w.alloc (.cells k 23)).alloc (.cells #[.int .u64 0, .int .u64 0, .int .u64 0, .int .u64 0, .int .u64 0, .int .u64 0, .int .u64 0, .int .u64 0, .int .u64 0, .int .u64 0, .int .u64 0, .int .u64 0, .int .u64 0, .int .u64 0, .int .u64 0, .int .u64 0, .int .u64 0, .int .u64 0, .int .u64 0, .int .u64 0] 29)) = w0 at *
 go_wp2_with (first | (refine wpList_load_want rfl 23 _ rfl (w.heap.size) rfl 23 k (0, 0) _ rp0 Tryd.underlying23 rfl hk.info ?_) | (refine wpList_load_want rfl 29 _ rfl (w.heap.size + 1) rfl 29 #[.int .u64 0, .int .u64 0, .int .u64 0, .int .u64 0, .int .u64 0, .int .u64 0, .int .u64 0, .int .u64 0, .int .u64 0, .int .u64 0, .int .u64 0, .int .u64 0, .int .u64 0, .int .u64 0, .int .u64 0, .int .u64 0, .int .u64 0, .int .u64 0, .int .u64 0, .int .u64 0] (0, 0) _ rp1 Tryd.underlying29 rfl (by kernel_rfl) ?_) | fail)
 refine (cF.at _).mono ?_
 rintro e w2 ⟨rfl, hb⟩
 replace rp0 := keep hb rp0
 replace rp1 := keep hb rp1
 replace hw := Below.after hw hb
 replace f4 := f4.below hb
 clear hb
 go_wp2_with (first | (refine wpList_load_want rfl 23 _ rfl (w.heap.size) rfl 23 k (0, 0) _ rp0 Tryd.underlying23 rfl hk.info ?_) | (refine wpList_load_want rfl 29 _ rfl (w.heap.size + 1) rfl 29 #[.int .u64 0, .int .u64 0, .int .u64 0, .int .u64 0, .int .u64 0, .int .u64 0, .int .u64 0, .int .u64 0, .int .u64 0, .int .u64 0, .int .u64 0, .int .u64 0, .int .u64 0, .int .u64 0, .int .u64 0, .int .u64 0, .int .u64 0, .int .u64 0, .int .u64 0, .int .u64 0] (0, 0) _ rp1 Tryd.underlying29 rfl (by kernel_rfl) ?_) | fail)
 refine (c3.at _).mono ?_
 rintro e w4 ⟨rfl, hb⟩
 replace rp0 := keep hb rp0
 replace rp1 := keep hb rp1
 replace hw := Below.after hw hb
 replace f4 := f4.below hb
 clear hb
 go_wp2_with (first | (refine wpList_store_row rfl 27 _ _ rfl (w4.heap.size) ur rfl rfl 27 #[.int .u64 0, .int .u64 0, .int .u64 0, .int .u64 0, .int .u64 0] (hp2_0 w4 _ _) hu.info (hu.fits rfl) hu.one ?_; rw [setRow_alloc_old _ _ _ _ (by simp), setRow_alloc_new _ _ _ _ _ _ (by simp)]) | (refine wpList_store_row rfl 27 _ _ rfl (w4.heap.size + 1) x3 rfl rfl 27 #[.int .u64 0, .int .u64 0, .int .u64 0, .int .u64 0, .int .u64 0] (hp2_1 w4 _ _) h3.info (h3.fits rfl) h3.one ?_; rw [setRow_alloc_new _ _ _ _ _ _ (by simp)]; refine wpList_stay ?_) | fail)
 unfold WpStay
 try simp only [Act.put]
 have rl6 : ((w4.alloc (.cells ur 27)).alloc (.cells x3 27)).heap[w4.heap.size]? = some (.cells ur 27 (0, 0)) := hp2_0 w4 _ _
 have rl7 : ((w4.alloc (.cells ur 27)).alloc (.cells x3 27)).heap[w4.heap.size + 1]? = some (.cells x3 27 (0, 0)) := hp2_1 w4 _ _
 have hb : Below w4.heap.size w4 ((w4.alloc (.cells ur 27)).alloc (.cells x3 27)) := (((Below.refl _ _).alloc (Nat.le_refl _) _).alloc (by simp) _)
 generalize ((w4.alloc (.cells ur 27)).alloc (.cells x3 27)) = wu at *
 have ygu_0 := lt_of_row rp0
 have ygu_1 := lt_of_row rp1
 have ygu := hw.size
 have zgu := f4.sz
 replace rp0 := keep hb rp0
 replace rp1 := keep hb rp1
 replace hw := Below.after hw hb
 replace f4 := f4.below hb
 clear hb
 generalize w4.heap.size = gu at *
 clear w4
 go_wp2_with (first | (refine wpList_load_want rfl 23 _ rfl (w.heap.size) rfl 23 k (0, 0) _ rp0 Tryd.underlying23 rfl hk.info ?_) | (refine wpList_load_want rfl 29 _ rfl (w.heap.size + 1) rfl 29 #[.int .u64 0, .int .u64 0, .int .u64 0, .int .u64 0, .int .u64 0, .int .u64 0, .int .u64 0, .int .u64 0, .int .u64 0, .int .u64 0, .int .u64 0, .int .u64 0, .int .u64 0, .int .u64 0, .int .u64 0, .int .u64 0, .int .u64 0, .int .u64 0, .int .u64 0, .int .u64 0] (0, 0) _ rp1 Tryd.underlying29 rfl (by kernel_rfl) ?_) | (refine wpList_load_want rfl 27 _ rfl (gu) rfl 27 ur (0, 0) _ rl6 Tryd.underlying27 rfl hu.info ?_) | (refine wpList_load_want rfl 27 _ rfl (gu + 1) rfl 27 x3 (0, 0) _ rl7 Tryd.underlying27 rfl h3.info ?_) | fail)
 refine (c5.at _).mono ?_
 rintro e w6 ⟨rfl, hb⟩
 replace rp0 := keep hb rp0
 replace rp1 := keep hb rp1
 replace rl6 := keep hb rl6
 replace rl7 := keep hb rl7
 replace hw := Below.after hw hb
 replace f4 := f4.below hb
 clear hb
 go_wp2_with (first | (refine wpList_store_row rfl 27 _ _ rfl (w6.heap.size) x5 rfl rfl 27 #[.int .u64 0, .int .u64 0, .int .u64 0, .int .u64 0, .int .u64 0] (hp1_0 w6 _) h5.info (h5.fits rfl) h5.one ?_; rw [setRow_alloc_new _ _ _ _ _ _ (by simp)]; refine wpList_stay ?_) | fail)
 unfold WpStay
 try simp only [Act.put]
 have rl8 : (w6.alloc (.cells x5 27)).heap[w6.heap.size]? = some (.cells x5 27 (0, 0)) := hp1_0 w6 _
 have hb : Below w6.heap.size w6 (w6.alloc (.cells x5 27)) := ((Below.refl _ _).alloc (Nat.le_refl _) _)
 generalize (w6.alloc (.cells x5 27)) = wb at *
 have ygb_0 := lt_of_row rp0
 have ygb_1 := lt_of_row rp1
 have ygb_2 := lt_of_row rl6
 have ygb_3 := lt_of_row rl7
 have ygb := hw.size
 have zgb := f4.sz
 replace rp0 := keep hb rp0
 replace rp1 := keep hb rp1
 replace rl6 := keep hb rl6
 replace rl7 := keep hb rl7
 replace hw := Below.after hw hb
 replace f4 := f4.below hb
 clear hb
 generalize w6.heap.size = gb at *
 clear w6
 go_wp2_with (first | (refine wpList_load_want rfl 23 _ rfl (w.heap.size) rfl 23 k (0, 0) _ rp0 Tryd.underlying23 rfl hk.info ?_) | (refine wpList_load_want rfl 29 _ rfl (w.heap.size + 1) rfl 29 #[.int .u64 0, .int .u64 0, .int .u64 0, .int .u64 0, .int .u64 0, .int .u64 0, .int .u64 0, .int .u64 0, .int .u64 0, .int .u64 0, .int .u64 0, .int .u64 0, .int .u64 0, .int .u64 0, .int .u64 0, .int .u64 0, .int .u64 0, .int .u64 0, .int .u64 0, .int .u64 0] (0, 0) _ rp1 Tryd.underlying29 rfl (by kernel_rfl) ?_) | (refine wpList_load_want rfl 27 _ rfl (gu) rfl 27 ur (0, 0) _ rl6 Tryd.underlying27 rfl hu.info ?_) | (refine wpList_load_want rfl 27 _ rfl (gu + 1) rfl 27 x3 (0, 0) _ rl7 Tryd.underlying27 rfl h3.info ?_) | (refine wpList_load_want rfl 27 _ rfl (gb) rfl 27 x5 (0, 0) _ rl8 Tryd.underlying27 rfl h5.info ?_) | fail)
 refine (c7.at _).mono ?_
 rintro e w8 ⟨rfl, hb⟩
 replace rp0 := keep hb rp0
 replace rp1 := keep hb rp1
 replace rl6 := keep hb rl6
 replace rl7 := keep hb rl7
 replace rl8 := keep hb rl8
 replace hw := Below.after hw hb
 replace f4 := f4.below hb
 clear hb
 go_wp2_with (fail)
 have hbd : Below w8.heap.size w8 w8.drew := below_drN (Below.refl _ _) 1
 replace rp0 := keep hbd rp0
 replace rp1 := keep hbd rp1
 replace rl6 := keep hbd rl6
 replace rl7 := keep hbd rl7
 replace rl8 := keep hbd rl8
 replace hw := Below.after hw hbd
 replace f4 := f4.below hbd
 clear hbd
 refine wp_region_noPanic ?_
 refine wp_region_held (S := fun W_ => W_.heap[gu]? = some (.cells ur 27 (0, 0)) ∧ W_.heap[gu + 1]? = some (.cells x3 27 (0, 0)) ∧ W_.heap[gb]? = some (.cells x5 27 (0, 0))) (by kernel_rfl) ?_
 change wpAnyH _ _ _ _ _ _ _ _ (World.drew _)
 generalize w8.drew = wd14 at *
 refine wpAnyH_take (i := 0) (v := .agg ur) rfl (by kernel_rfl) (by kernel_rfl) (by kernel_rfl) (fun _ _ _ h => h) (Or.inl ⟨by rfl, ?y15⟩) (⟨rl6, rl7, rl8⟩) ?r15
 case y15 =>
  intro w_ hS_
  simp only [List.getElem_toArray, List.getElem_cons_zero]
  exact e_load_part 27 _ (by rfl) (gu) 0 (by rfl) 27 ur (0, 0) ur _ (hS_.1) (all_rowe _) Tryd.underlying27 rfl hu.info
 simp only [Act.put, List.getElem_toArray, List.getElem_cons_zero, List.setIfInBounds_toArray, List.set_cons_succ, List.set_cons_zero]
 refine wpAnyH_take (i := 1) (v := .agg x3) rfl (by kernel_rfl) (by kernel_rfl) (by kernel_rfl) (fun _ _ _ h => h) (Or.inl ⟨by rfl, ?y16⟩) (⟨rl6, rl7, rl8⟩) ?r16
 case y16 =>
  intro w_ hS_
  simp only [List.getElem_toArray, List.getElem_cons_succ, List.getElem_cons_zero]
  exact e_load_part 27 _ (by rfl) (gu + 1) 0 (by rfl) 27 x3 (0, 0) x3 _ (hS_.2.1) (all_rowe _) Tryd.underlying27 rfl h3.info
 simp only [Act.put, List.getElem_toArray, List.getElem_cons_succ, List.getElem_cons_zero, List.setIfInBounds_toArray, List.set_cons_succ, List.set_cons_zero]
 refine wpAnyH_take (i := 3) (v := .agg x5) rfl (by kernel_rfl) (by kernel_rfl) (by kernel_rfl) (fun _ _ _ h => h) (Or.inl ⟨by rfl, ?y17⟩) (⟨rl6, rl7, rl8⟩) ?r17
 case y17 =>
  intro w_ hS_
  simp only [List.getElem_toArray, List.getElem_cons_succ, List.getElem_cons_zero]
  exact e_load_part 27 _ (by rfl) (gb) 0 (by rfl) 27 x5 (0, 0) x5 _ (hS_.2.2) (all_rowe _) Tryd.underlying27 rfl h5.info
 simp only [Act.put, List.getElem_toArray, List.getElem_cons_succ, List.getElem_cons_zero, List.setIfInBounds_toArray, List.set_cons_succ, List.set_cons_zero]
 refine wpAnyH_take (i := 6) (v := ?v18) rfl (by kernel_rfl) (by kernel_rfl) (by kernel_rfl) (fun _ _ _ h => h) (Or.inl ⟨by rfl, ?y18⟩) (⟨rl6, rl7, rl8⟩) ?r18
 case y18 =>
  intro w_ hS_
  go_simp
  try with_reducible rfl
 simp only [Act.put, List.getElem_toArray, List.getElem_cons_succ, List.getElem_cons_zero, List.setIfInBounds_toArray, List.set_cons_succ, List.set_cons_zero]
 refine eH_one (k := 2) (fuel := 7) (by kernel_rfl) rfl (by kernel_rfl) (fun K_ hK_ => ?_)
 refine wp_call_ex (f := 52) (by kernel_rfl) (ex1e (c9.at f4.1)) (fun v_ wq19 hX_ => ?_)
 obtain ⟨rfl, hb_⟩ := hX_
 replace rp0 := keep hb_ rp0
 replace rp1 := keep hb_ rp1
 replace rl6 := keep hb_ rl6
 replace rl7 := keep hb_ rl7
 replace rl8 := keep hb_ rl8
 replace hw := Below.after hw hb_
 replace f4 := f4.below hb_
 clear hb_
 refine hK_ _ _ (⟨rl6, rl7, rl8⟩) ?_
 simp only [Act.put, List.getElem_toArray, List.getElem_cons_succ, List.getElem_cons_zero, List.setIfInBounds_toArray, List.set_cons_succ, List.set_cons_zero]
 clear hK_
 refine eH_one (k := 4) (fuel := 6) (by kernel_rfl) rfl (by kernel_rfl) (fun K_ hK_ => ?_)
 refine wp_call_ex (f := 50) (by kernel_rfl) (ex1e (c10.at _)) (fun v_ wq20 hX_ => ?_)
 obtain ⟨rfl, hb_⟩ := hX_
 replace rp0 := keep hb_ rp0
 replace rp1 := keep hb_ rp1
 replace rl6 := keep hb_ rl6
 replace rl7 := keep hb_ rl7
 replace rl8 := keep hb_ rl8
 replace hw := Below.after hw hb_
 replace f4 := f4.below hb_
 clear hb_
 refine hK_ _ _ (⟨rl6, rl7, rl8⟩) ?_
 simp only [Act.put, List.getElem_toArray, List.getElem_cons_succ, List.getElem_cons_zero, List.setIfInBounds_toArray, List.set_cons_succ, List.set_cons_zero]
 clear hK_
 refine eH_one (k := 5) (fuel := 5) (by kernel_rfl) rfl (by kernel_rfl) (fun K_ hK_ => ?_)
 refine wp_call_ex (f := 49) (by kernel_rfl) (ex1e (c11.at _)) (fun v_ wq21 hX_ => ?_)
 obtain ⟨rfl, hb_⟩ := hX_
 replace rp0 := keep hb_ rp0
 replace rp1 := keep hb_ rp1
 replace rl6 := keep hb_ rl6
 replace rl7 := keep hb_ rl7
 replace rl8 := keep hb_ rl8
 replace hw := Below.after hw hb_
 replace f4 := f4.below hb_
 clear hb_
 refine hK_ _ _ (⟨rl6, rl7, rl8⟩) ?_
 simp only [Act.put, List.getElem_toArray, List.getElem_cons_succ, List.getElem_cons_zero, List.setIfInBounds_toArray, List.set_cons_succ, List.set_cons_zero]
 clear hK_
 refine eH_one (k := 7) (fuel := 4) (by kernel_rfl) rfl (by kernel_rfl) (fun K_ hK_ => ?_)
 refine wp_call_ex (f := 64) (by kernel_rfl) (ex1e (cS.at f4)) (fun v_ wq22 hX_ => ?_)
 obtain ⟨rfl, hb_⟩ := hX_
 replace rp0 := keep hb_ rp0
 replace rp1 := keep hb_ rp1
 replace rl6 := keep hb_ rl6
 replace rl7 := keep hb_ rl7
 replace rl8 := keep hb_ rl8
 replace hw := Below.after hw hb_
 replace f4 := f4.below hb_
 clear hb_
 refine hK_ _ _ (⟨rl6, rl7, rl8⟩) ?_
 simp only [Act.put, List.getElem_toArray, List.getElem_cons_succ, List.getElem_cons_zero, List.setIfInBounds_toArray, List.set_cons_succ, List.set_cons_zero]
 clear hK_
 refine wpAnyH_take (i := 8) (v := ?v23) rfl (by kernel_rfl) (by kernel_rfl) (by kernel_rfl) (fun _ _ _ h => h) (Or.inl ⟨by rfl, ?y23⟩) (⟨rl6, rl7, rl8⟩) ?r23
 case y23 =>
  intro w_ hS_
  go_simp
  try with_reducible rfl
 simp only [Act.put, List.getElem_toArray, List.getElem_cons_succ, List.getElem_cons_zero, List.setIfInBounds_toArray, List.set_cons_succ, List.set_cons_zero]
 refine wpAnyH_take (i := 9) (v := ?v24) rfl (by kernel_rfl) (by kernel_rfl) (by kernel_rfl) (fun _ _ _ h => h) (Or.inl ⟨by rfl, ?y24⟩) (⟨rl6, rl7, rl8⟩) ?r24
 case y24 =>
  intro w_ hS_
  go_simp
  try with_reducible rfl
 simp only [Act.put, List.getElem_toArray, List.getElem_cons_succ, List.getElem_cons_zero, List.setIfInBounds_toArray, List.set_cons_succ, List.set_cons_zero]
 refine eH_one (k := 10) (fuel := 1) (by kernel_rfl) rfl (by kernel_rfl) (fun K_ hK_ => ?_)
 refine wp_store_row 29 _ _ rfl (w.heap.size + 1) t rfl rfl 29 _ rp1 ht.info ((show _ = 20 from rfl).trans ht.size.symm) ht.one ?_
 replace rp0 := (setRow_other wq22 (w.heap.size + 1) (w.heap.size) t (by first | assumption | omega)).trans rp0
 replace rl6 := (setRow_other wq22 (w.heap.size + 1) (gu) t (by first | assumption | omega)).trans rl6
 replace rl7 := (setRow_other wq22 (w.heap.size + 1) (gu + 1) t (by first | assumption | omega)).trans rl7
 replace rl8 := (setRow_other wq22 (w.heap.size + 1) (gb) t (by first | assumption | omega)).trans rl8
 replace rp1 := setRow_heap wq22 (w.heap.size + 1) _ t _ _ rp1
 replace hw := below_setRow hw (show w.heap.size ≤ w.heap.size + 1 by first | assumption | omega) t
 replace f4 := f4.setRow (show 4 < w.heap.size + 1 by first | assumption | omega) t
 generalize wq22.setRow (w.heap.size + 1) t = wq25 at *
 refine hK_ _ _ (⟨rl6, rl7, rl8⟩) ?_
 simp only [Act.put]
 clear hK_
 refine wpAnyH_take (i := 11) (v := ?v26) rfl (by kernel_rfl) (by kernel_rfl) (by kernel_rfl) (fun _ _ _ h => h) (Or.inl ⟨by rfl, ?y26⟩) (⟨rl6, rl7, rl8⟩) ?r26
 case y26 =>
  intro w_ hS_
  go_simp
  try with_reducible rfl
 simp only [Act.put, List.getElem_toArray, List.getElem_cons_succ, List.getElem_cons_zero, List.setIfInBounds_toArray, List.set_cons_succ, List.set_cons_zero]
 refine wpAnyH_done (by kernel_rfl) ?_ _
 refine NoPanic.normal ?_
 go_wp2_with (fail)
 exact bodyPost_ret (v := .tuple #[.agg t, .int .i64 190]) (results_row_slot Tryd.results14 _ _ (w.heap.size + 1) _ t _ _ _ rfl rp1 rfl Tryd.underlying29 rfl ht.info) rfl ⟨rfl, hw⟩
theorem a_Lift {k : Array Value} {N : Int} (h : KeyOf k N) (odd : Bool) : ∃ t, PtO t (lp N odd) ∧ Gives5 14 #[.agg k, .bool odd] (.tuple #[.agg t, .int .i64 (le' N odd)]) := by
 obtain ⟨ur, hu, cF⟩ := a_from h
 by_cases hz : (N % 57896044618658097711785492504343953926634992332820282019728792003956564819968 + 1) % prm = 0
 ·obtain ⟨e1, e2⟩ := lift_no (odd := odd) (.inl hz)
  rw [e1, e2]
  exact ⟨_, pt_zero, lift_zero h hu cF (decide_eq_true hz)⟩
 ·by_cases hh : has ((N % 57896044618658097711785492504343953926634992332820282019728792003956564819968 - 1) * iv (N % 57896044618658097711785492504343953926634992332820282019728792003956564819968 + 1)) odd = true
  ·obtain ⟨e1, e2, e3⟩ := lift_yes hz hh
   rw [e1]
   exact lift_some h hu cF (decide_eq_false hz) (fun r hr => beside_yes hr hh e2 e3)
  ·rw [Bool.not_eq_true] at hh
   obtain ⟨e1, e2⟩ := lift_no (odd := odd) (.inr hh)
   rw [e1, e2]
   exact lift_none h hu cF (decide_eq_false hz) (fun r hr => ⟨_, pt_zero, beside_no hr hh⟩)
end Go.Proofs.YtgfhoabgbgddbaaDoor

