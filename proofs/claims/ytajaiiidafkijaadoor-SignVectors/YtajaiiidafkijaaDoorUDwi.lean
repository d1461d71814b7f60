import Derived.Test.YtajaiiidafkijaaDoorProg
import Derived.WalkKit
import Derived.WalkSpells
import Derived.WalkLawsBesides
import Derived.Lib.QuietBelow
import Derived.BigQuiet
import Derived.Test.YtajaiiidafkijaaDoorUKa
import Derived.Test.YtajaiiidafkijaaDoorUDwf
import Derived.RegionTactic
import Derived.Test.YtajaiiidafkijaaDoorUEc
import Derived.ChangeKeysEq
import Derived.Laws.StructEq
import Derived.Deep.OwnRows
import Derived.Laws.CopyOwn
import Derived.OwnWalk
import Derived.Laws.Bits64b
namespace Go.Proofs.YtajaiiidafkijaaDoor
set_option maxRecDepth 100000
open Go.RowKit Go.Sort
attribute [local go_sem] setCell_drewN alloc_drewN
set_option maxRecDepth 100000 in
set_option maxHeartbeats 8000000 in
theorem lift_zero {k ur : Array Value} {N U : Int} {odd : Bool} (hk : KeyOf k N) (hu : NumOf ur U) (cF : Gives 30 #[.agg k] (.agg ur)) (hz : decide ((U + 1) % prm = 0) = true) : Gives5 29 #[.agg k, .bool odd] (.tuple #[.agg q20, .int .i64 190]) := by
 obtain ⟨x3, h3, c3⟩ := a_small 1 (by decide) (by decide)
 obtain ⟨x5, h5, c5⟩ := a_add hu h3
 have c7 := a_isZero h5
 rw [hz] at c7
 intro w hF
 have rp0 : ((w.alloc (.cells k 25)).alloc (.cells q20 45)).heap[w.heap.size]? = some (.cells k 25 (0, 0)) := hp2_0 w _ _
 have rp1 : ((w.alloc (.cells k 25)).alloc (.cells q20 45)).heap[w.heap.size + 1]? = some (.cells q20 45 (0, 0)) := hp2_1 w _ _
 have hw : Below w.heap.size w ((w.alloc (.cells k 25)).alloc (.cells q20 45)) := (((Below.refl _ _).alloc (Nat.le_refl _) _).alloc (by simp) _)
 have hz0 := hF.sz
 have f4 : Both ((w.alloc (.cells k 25)).alloc (.cells q20 45)) := ((hF.alloc _).alloc _)
 go_enter Tryd.func29, Tryd.ntmps29
 iterate 12 go_step
 generalize ((w.alloc (.cells k 25)).alloc (.cells q20 45)) = w0 at *
 go_wp2_with (first | (refine wpList_load_want rfl 25 _ rfl (w.heap.size) rfl 25 k (0, 0) _ rp0 Tryd.underlying25 rfl hk.info ?_) | (refine wpList_load_want rfl 45 _ rfl (w.heap.size + 1) rfl 45 q20 (0, 0) _ rp1 Tryd.underlying45 rfl (by kernel_rfl) ?_) | fail)
 refine (cF.at _).mono ?_
 rintro e w2 ⟨rfl, hb⟩
 replace rp0 := keep hb rp0
 replace rp1 := keep hb rp1
 replace hw := Below.after hw hb
 replace f4 := f4.below hb
 clear hb
 go_wp2_with (first | (refine wpList_load_want rfl 25 _ rfl (w.heap.size) rfl 25 k (0, 0) _ rp0 Tryd.underlying25 rfl hk.info ?_) | (refine wpList_load_want rfl 45 _ rfl (w.heap.size + 1) rfl 45 q20 (0, 0) _ rp1 Tryd.underlying45 rfl (by kernel_rfl) ?_) | fail)
 refine (c3.at _).mono ?_
 rintro e w4 ⟨rfl, hb⟩
 replace rp0 := keep hb rp0
 replace rp1 := keep hb rp1
 replace hw := Below.after hw hb
 replace f4 := f4.below hb
 clear hb
 go_wp2_with (first | (refine wpList_store_row rfl 43 _ _ rfl (w4.heap.size) ur rfl rfl 43 #[.int .u64 0, .int .u64 0, .int .u64 0, .int .u64 0, .int .u64 0] (hp2_0 w4 _ _) hu.info (hu.fits rfl) hu.one ?_; rw [setRow_alloc_old _ _ _ _ (by simp), setRow_alloc_new _ _ _ _ _ _ (by simp)]) | (refine wpList_store_row rfl 43 _ _ rfl (w4.heap.size + 1) x3 rfl rfl 43 #[.int .u64 0, .int .u64 0, .int .u64 0, .int .u64 0, .int .u64 0] (hp2_1 w4 _ _) h3.info (h3.fits rfl) h3.one ?_; rw [setRow_alloc_new _ _ _ _ _ _ (by simp)]; refine wpList_stay ?_) | fail)
 unfold WpStay
 try simp only [Act.put]
 have rl6 : ((w4.alloc (.cells ur 43)).alloc (.cells x3 43)).heap[w4.heap.size]? = some (.cells ur 43 (0, 0)) := hp2_0 w4 _ _
 have rl7 : ((w4.alloc (.cells ur 43)).alloc (.cells x3 43)).heap[w4.heap.size + 1]? = some (.cells x3 43 (0, 0)) := hp2_1 w4 _ _
 have hb : Below w4.heap.size w4 ((w4.alloc (.cells ur 43)).alloc (.cells x3 43)) := (((Below.refl _ _).alloc (Nat.le_refl _) _).alloc (by simp) _)
 generalize ((w4.alloc (.cells ur 43)).alloc (.cells x3 43)) = wu at *
 have ygu_0 := lt_of_row rp0
 have ygu_1 := lt_of_row rp1
 have ygu := hw.size
 have zgu := f4.sz
 replace rp0 := keep hb rp0
 replace rp1 := keep hb rp1
 replace hw := Below.after hw hb
 replace f4 := f4.below hb
 clear hb
 generalize w4.heap.size = gu at *
 clear w4
 go_wp2_with (first | (refine wpList_load_want rfl 25 _ rfl (w.heap.size) rfl 25 k (0, 0) _ rp0 Tryd.underlying25 rfl hk.info ?_) | (refine wpList_load_want rfl 45 _ rfl (w.heap.size + 1) rfl 45 q20 (0, 0) _ rp1 Tryd.underlying45 rfl (by kernel_rfl) ?_) | (refine wpList_load_want rfl 43 _ rfl (gu) rfl 43 ur (0, 0) _ rl6 Tryd.underlying43 rfl hu.info ?_) | (refine wpList_load_want rfl 43 _ rfl (gu + 1) rfl 43 x3 (0, 0) _ rl7 Tryd.underlying43 rfl h3.info ?_) | fail)
 refine (c5.at _).mono ?_
 rintro e w6 ⟨rfl, hb⟩
 replace rp0 := keep hb rp0
 replace rp1 := keep hb rp1
 replace rl6 := keep hb rl6
 replace rl7 := keep hb rl7
 replace hw := Below.after hw hb
 replace f4 := f4.below hb
 clear hb
 go_wp2_with (first | (refine wpList_store_row rfl 43 _ _ rfl (w6.heap.size) x5 rfl rfl 43 #[.int .u64 0, .int .u64 0, .int .u64 0, .int .u64 0, .int .u64 0] (hp1_0 w6 _) h5.info (h5.fits rfl) h5.one ?_; rw [setRow_alloc_new _ _ _ _ _ _ (by simp)]; refine wpList_stay ?_) | fail)
 unfold WpStay
 try simp only [Act.put]
 have rl8 : (w6.alloc (.cells x5 43)).heap[w6.heap.size]? = some (.cells x5 43 (0, 0)) := hp1_0 w6 _
 have hb : Below w6.heap.size w6 (w6.alloc (.cells x5 43)) := ((Below.refl _ _).alloc (Nat.le_refl _) _)
 generalize (w6.alloc (.cells x5 43)) = wb at *
 have ygb_0 := lt_of_row rp0
 have ygb_1 := lt_of_row rp1
 have ygb_2 := lt_of_row rl6
 have ygb_3 := lt_of_row rl7
 have ygb := hw.size
 have zgb := f4.sz
 replace rp0 := keep hb rp0
 replace rp1 := keep hb rp1
 replace rl6 := keep hb rl6
 replace rl7 := keep hb rl7
 replace hw := Below.after hw hb
 replace f4 := f4.below hb
 clear hb
 generalize w6.heap.size = gb at *
 clear w6
 go_wp2_with (first | (refine wpList_load_want rfl 25 _ rfl (w.heap.size) rfl 25 k (0, 0) _ rp0 Tryd.underlying25 rfl hk.info ?_) | (refine wpList_load_want rfl 45 _ rfl (w.heap.size + 1) rfl 45 q20 (0, 0) _ rp1 Tryd.underlying45 rfl (by kernel_rfl) ?_) | (refine wpList_load_want rfl 43 _ rfl (gu) rfl 43 ur (0, 0) _ rl6 Tryd.underlying43 rfl hu.info ?_) | (refine wpList_load_want rfl 43 _ rfl (gu + 1) rfl 43 x3 (0, 0) _ rl7 Tryd.underlying43 rfl h3.info ?_) | (refine wpList_load_want rfl 43 _ rfl (gb) rfl 43 x5 (0, 0) _ rl8 Tryd.underlying43 rfl h5.info ?_) | fail)
 refine (c7.at _).mono ?_
 rintro e w8 ⟨rfl, hb⟩
 replace rp0 := keep hb rp0
 replace rp1 := keep hb rp1
 replace rl6 := keep hb rl6
 replace rl7 := keep hb rl7
 replace rl8 := keep hb rl8
 replace hw := Below.after hw hb
 replace f4 := f4.below hb
 clear hb
 go_wp2_with (first | (refine wpList_build_as rfl 45 _ rfl [] rfl q20 (by kernel_rfl) ?_) | (refine wpList_store_row rfl 45 _ _ rfl (w.heap.size + 1) q20 rfl rfl 45 _ rp1 (by kernel_rfl) rfl (by kernel_rfl) ?_) | fail)
 exact bodyPost_ret (v := .tuple #[.agg q20, .int .i64 190]) (results_row_slot Tryd.results29 _ _ (w.heap.size + 1) _ q20 _ _ _ rfl (setRow_heap _ _ _ _ _ _ rp1) rfl Tryd.underlying45 rfl (by kernel_rfl)) rfl ⟨rfl, below_setRow hw (by omega) _⟩
set_option maxRecDepth 100000 in
set_option maxHeartbeats 8000000 in
theorem lift_some {k ur : Array Value} {N U : Int} {odd : Bool} {Q : E1} (hk : KeyOf k N) (hu : NumOf ur U) (cF : Gives 30 #[.agg k] (.agg ur)) (hz : decide ((U + 1) % prm = 0) = false) (hB : ∀ r, NumOf r ((U - 1) * iv (U + 1)) → (∃ t, PtO t Q ∧ Gives5 73 #[.agg r, .bool odd] (.tuple #[.agg t, .int .i64 0]))) : ∃ t, PtO t Q ∧ Gives5 29 #[.agg k, .bool odd] (.tuple #[.agg t, .int .i64 0]) := by
 obtain ⟨x3, h3, c3⟩ := a_small 1 (by decide) (by decide)
 obtain ⟨x5, h5, c5⟩ := a_add hu h3
 have c7 := a_isZero h5
 rw [hz] at c7
 obtain ⟨x9, h9, c9⟩ := a_sub hu h3
 obtain ⟨x10, h10, c10⟩ := a_inv h5
 obtain ⟨x11, h11, c11⟩ := a_mul h9 h10
 obtain ⟨t, ht, cS⟩ := hB _ h11
 refine ⟨t, ht, ?_⟩
 intro w hF
 have rp0 : ((w.alloc (.cells k 25)).alloc (.cells q20 45)).heap[w.heap.size]? = some (.cells k 25 (0, 0)) := hp2_0 w _ _
 have rp1 : ((w.alloc (.cells k 25)).alloc (.cells q20 45)).heap[w.heap.size + 1]? = some (.cells q20 45 (0, 0)) := hp2_1 w _ _
 have hw : Below w.heap.size w ((w.alloc (.cells k 25)).alloc (.cells q20 45)) := (((Below.refl _ _).alloc (Nat.le_refl _) _).alloc (by simp) _)
 have hz0 := hF.sz
 have f4 : Both ((w.alloc (.cells k 25)).alloc (.cells q20 45)) := ((hF.alloc _).alloc _)
 go_enter Tryd.func29, Tryd.ntmps29
 iterate 12 go_step
 generalize ((w.alloc (.cells k 25)).alloc (.cells q20 45)) = w0 at *
 go_wp2_with (first | (refine wpList_load_want rfl 25 _ rfl (w.heap.size) rfl 25 k (0, 0) _ rp0 Tryd.underlying25 rfl hk.info ?_) | (refine wpList_load_want rfl 45 _ rfl (w.heap.size + 1) rfl 45 q20 (0, 0) _ rp1 Tryd.underlying45 rfl (by kernel_rfl) ?_) | fail)
 refine (cF.at _).mono ?_
 rintro e w2 ⟨rfl, hb⟩
 replace rp0 := keep hb rp0
 replace rp1 := keep hb rp1
 replace hw := Below.after hw hb
 replace f4 := f4.below hb
 clear hb
 go_wp2_with (first | (refine wpList_load_want rfl 25 _ rfl (w.heap.size) rfl 25 k (0, 0) _ rp0 Tryd.underlying25 rfl hk.info ?_) | (refine wpList_load_want rfl 45 _ rfl (w.heap.size + 1) rfl 45 q20 (0, 0) _ rp1 Tryd.underlying45 rfl (by kernel_rfl) ?_) | fail)
 refine (c3.at _).mono ?_
 rintro e w4 ⟨rfl, hb⟩
 replace rp0 := keep hb rp0
 replace rp1 := keep hb rp1
 replace hw := Below.after hw hb
 replace f4 := f4.below hb
 clear hb
 go_wp2_with (first | (refine wpList_store_row rfl 43 _ _ rfl (w4.heap.size) ur rfl rfl 43 #[.int .u64 0, .int .u64 0, .int .u64 0, .int .u64 0, .int .u64 0] (hp2_0 w4 _ _) hu.info (hu.fits rfl) hu.one ?_; rw [setRow_alloc_old _ _ _ _ (by simp), setRow_alloc_new _ _ _ _ _ _ (by simp)]) | (refine wpList_store_row rfl 43 _ _ rfl (w4.heap.size + 1) x3 rfl rfl 43 #[.int .u64 0, .int .u64 0, .int .u64 0, .int .u64 0, .int .u64 0] (hp2_1 w4 _ _) h3.info (h3.fits rfl) h3.one ?_; rw [setRow_alloc_new _ _ _ _ _ _ (by simp)]; refine wpList_stay ?_) | fail)
 unfold WpStay
 try simp only [Act.put]
 have rl6 : ((w4.alloc (.cells ur 43)).alloc (.cells x3 43)).heap[w4.heap.size]? = some (.cells ur 43 (0, 0)) := hp2_0 w4 _ _
 have rl7 : ((w4.alloc (.cells ur 43)).alloc (.cells x3 43)).heap[w4.heap.size + 1]? = some (.cells x3 43 (0, 0)) := hp2_1 w4 _ _
 have hb : Below w4.heap.size w4 ((w4.alloc (.cells ur 43)).alloc (.cells x3 43)) := (((Below.refl _ _).alloc (Nat.le_refl _) _).alloc (by simp) _)
 generalize ((w4.alloc (.cells ur 43)).alloc (.cells x3 43)) = wu at *
 have ygu_0 := lt_of_row rp0
 have ygu_1 := lt_of_row rp1
 have ygu := hw.size
 have zgu := f4.sz
 replace rp0 := keep hb rp0
 replace rp1 := keep hb rp1
 replace hw := Below.after hw hb
 replace f4 := f4.below hb
 clear hb
 generalize w4.heap.size = gu at *
 clear w4
 go_wp2_with (first | (refine wpList_load_want rfl 25 _ rfl (w.heap.size) rfl 25 k (0, 0) _ rp0 Tryd.underlying25 rfl hk.info ?_) | (refine wpList_load_want rfl 45 _ rfl (w.heap.size + 1) rfl 45 q20 (0, 0) _ rp1 Tryd.underlying45 rfl (by kernel_rfl) ?_) | (refine wpList_load_want rfl 43 _ rfl (gu) rfl 43 ur (0, 0) _ rl6 Tryd.underlying43 rfl hu.info ?_) | (refine wpList_load_want rfl 43 _ rfl (gu + 1) rfl 43 x3 (0, 0) _ rl7 Tryd.underlying43 rfl h3.info ?_) | fail)
 refine (c5.at _).mono ?_
 rintro e w6 ⟨rfl, hb⟩
 replace rp0 := keep hb rp0
 replace rp1 := keep hb rp1
 replace rl6 := keep hb rl6
 replace rl7 := keep hb rl7
 replace hw := Below.after hw hb
 replace f4 := f4.below hb
 clear hb
 go_wp2_with (first | (refine wpList_store_row rfl 43 _ _ rfl (w6.heap.size) x5 rfl rfl 43 #[.int .u64 0, .int .u64 0, .int .u64 0, .int .u64 0, .int .u64 0] (hp1_0 w6 _) h5.info (h5.fits rfl) h5.one ?_; rw [setRow_alloc_new _ _ _ _ _ _ (by simp)]; refine wpList_stay ?_) | fail)
 unfold WpStay
 try simp only [Act.put]
 have rl8 : (w6.alloc (.cells x5 43)).heap[w6.heap.size]? = some (.cells x5 43 (0, 0)) := hp1_0 w6 _
 have hb : Below w6.heap.size w6 (w6.alloc (.cells x5 43)) := ((Below.refl _ _).alloc (Nat.le_refl _) _)
 generalize (w6.alloc (.cells x5 43)) = wb at *
 have ygb_0 := lt_of_row rp0
 have ygb_1 := lt_of_row rp1
 have ygb_2 := lt_of_row rl6
 have ygb_3 := lt_of_row rl7
 have ygb := hw.size
 have zgb := f4.sz
 replace rp0 := keep hb rp0
 replace rp1 := keep hb rp1
 replace rl6 := keep hb rl6
 replace rl7 := keep hb rl7
 replace hw := Below.after hw hb
 replace f4 := f4.below hb
 clear hb
 generalize w6.heap.size = gb at *
 clear w6
 go_wp2_with (first | (refine wpList_load_want rfl 25 _ rfl (w.heap.size) rfl 25 k (0, 0) _ rp0 Tryd.underlying25 rfl hk.info ?_) | (refine wpList_load_want rfl 45 _ rfl (w.heap.size + 1) rfl 45 q20 (0, 0) _ rp1 Tryd.underlying45 rfl (by kernel_rfl) ?_) | (refine wpList_load_want rfl 43 _ rfl (gu) rfl 43 ur (0, 0) _ rl6 Tryd.underlying43 rfl hu.info ?_) | (refine wpList_load_want rfl 43 _ rfl (gu + 1) rfl 43 x3 (0, 0) _ rl7 Tryd.underlying43 rfl h3.info ?_) | (refine wpList_load_want rfl 43 _ rfl (gb) rfl 43 x5 (0, 0) _ rl8 Tryd.underlying43 rfl h5.info ?_) | fail)
 refine (c7.at _).mono ?_
 rintro e w8 ⟨rfl, hb⟩
 replace rp0 := keep hb rp0
 replace rp1 := keep hb rp1
 replace rl6 := keep hb rl6
 replace rl7 := keep hb rl7
 replace rl8 := keep hb rl8
 replace hw := Below.after hw hb
 replace f4 := f4.below hb
 clear hb
 go_wp2_with (fail)
 have hbd : Below w8.heap.size w8 w8.drew := below_drN (Below.refl _ _) 1
 replace rp0 := keep hbd rp0
 replace rp1 := keep hbd rp1
 replace rl6 := keep hbd rl6
 replace rl7 := keep hbd rl7
 replace rl8 := keep hbd rl8
 replace hw := Below.after hw hbd
 replace f4 := f4.below hbd
 clear hbd
 refine wp_region_noPanic ?_
 refine wp_region_held (S := fun W_ => W_.heap[gu]? = some (.cells ur 43 (0, 0)) ∧ W_.heap[gu + 1]? = some (.cells x3 43 (0, 0)) ∧ W_.heap[gb]? = some (.cells x5 43 (0, 0))) (by kernel_rfl) ?_
 change wpAnyH _ _ _ _ _ _ _ _ (World.drew _)
 generalize w8.drew = wd1 at *
 refine wpAnyH_take (i := 0) (v := .agg ur) rfl (by kernel_rfl) (by kernel_rfl) (by kernel_rfl) (fun _ _ _ h => h) (Or.inl ⟨by rfl, ?y2⟩) (⟨rl6, rl7, rl8⟩) ?r2
 case y2 =>
  intro w_ hS_
  simp only [List.getElem_toArray, List.getElem_cons_zero]
  exact e_load_part 43 _ (by rfl) (gu) 0 (by rfl) 43 ur (0, 0) ur _ (hS_.1) (all_rowe _) Tryd.underlying43 rfl hu.info
 simp only [Act.put, ZPa, ZPc, ZPd, ZPe, ZPf]
 refine wpAnyH_take (i := 1) (v := .agg x3) rfl (by kernel_rfl) (by kernel_rfl) (by kernel_rfl) (fun _ _ _ h => h) (Or.inl ⟨by rfl, ?y3⟩) (⟨rl6, rl7, rl8⟩) ?r3
 case y3 =>
  intro w_ hS_
  simp only [List.getElem_toArray, List.getElem_cons_succ, List.getElem_cons_zero]
  exact e_load_part 43 _ (by rfl) (gu + 1) 0 (by rfl) 43 x3 (0, 0) x3 _ (hS_.2.1) (all_rowe _) Tryd.underlying43 rfl h3.info
 simp only [Act.put, ZPa, ZPb, ZPc, ZPd, ZPe, ZPf]
 refine wpAnyH_take (i := 3) (v := .agg x5) rfl (by kernel_rfl) (by kernel_rfl) (by kernel_rfl) (fun _ _ _ h => h) (Or.inl ⟨by rfl, ?y4⟩) (⟨rl6, rl7, rl8⟩) ?r4
 case y4 =>
  intro w_ hS_
  simp only [List.getElem_toArray, List.getElem_cons_succ, List.getElem_cons_zero]
  exact e_load_part 43 _ (by rfl) (gb) 0 (by rfl) 43 x5 (0, 0) x5 _ (hS_.2.2) (all_rowe _) Tryd.underlying43 rfl h5.info
 simp only [Act.put, ZPa, ZPb, ZPc, ZPd, ZPe, ZPf]
 refine wpAnyH_take (i := 6) (v := ?v5) rfl (by kernel_rfl) (by kernel_rfl) (by kernel_rfl) (fun _ _ _ h => h) (Or.inl ⟨by rfl, ?y5⟩) (⟨rl6, rl7, rl8⟩) ?r5
 case y5 =>
  intro w_ hS_
  go_simp
  try with_reducible rfl
 simp only [Act.put, ZPa, ZPb, ZPc, ZPd, ZPe, ZPf]
 refine eH_one (k := 2) (fuel := 7) (by kernel_rfl) rfl (by kernel_rfl) (fun K_ hK_ => ?_)
 refine wp_call_ex (f := 82) (by kernel_rfl) (ex1e (c9.at f4.1)) (fun v_ wq6 hX_ => ?_)
 obtain ⟨rfl, hb_⟩ := hX_
 replace rp0 := keep hb_ rp0
 replace rp1 := keep hb_ rp1
 replace rl6 := keep hb_ rl6
 replace rl7 := keep hb_ rl7
 replace rl8 := keep hb_ rl8
 replace hw := Below.after hw hb_
 replace f4 := f4.below hb_
 clear hb_
 refine hK_ _ _ (⟨rl6, rl7, rl8⟩) ?_
 simp only [Act.put, ZPa, ZPb, ZPc, ZPd, ZPe, ZPf]
 clear hK_
 refine eH_one (k := 4) (fuel := 6) (by kernel_rfl) rfl (by kernel_rfl) (fun K_ hK_ => ?_)
 refine wp_call_ex (f := 70) (by kernel_rfl) (ex1e (c10.at _)) (fun v_ wq7 hX_ => ?_)
 obtain ⟨rfl, hb_⟩ := hX_
 replace rp0 := keep hb_ rp0
 replace rp1 := keep hb_ rp1
 replace rl6 := keep hb_ rl6
 replace rl7 := keep hb_ rl7
 replace rl8 := keep hb_ rl8
 replace hw := Below.after hw hb_
 replace f4 := f4.below hb_
 clear hb_
 refine hK_ _ _ (⟨rl6, rl7, rl8⟩) ?_
 simp only [Act.put, ZPa, ZPb, ZPc, ZPd, ZPe, ZPf]
 clear hK_
 refine eH_one (k := 5) (fuel := 5) (by kernel_rfl) rfl (by kernel_rfl) (fun K_ hK_ => ?_)
 refine wp_call_ex (f := 71) (by kernel_rfl) (ex1e (c11.at _)) (fun v_ wq8 hX_ => ?_)
 obtain ⟨rfl, hb_⟩ := hX_
 replace rp0 := keep hb_ rp0
 replace rp1 := keep hb_ rp1
 replace rl6 := keep hb_ rl6
 replace rl7 := keep hb_ rl7
 replace rl8 := keep hb_ rl8
 replace hw := Below.after hw hb_
 replace f4 := f4.below hb_
 clear hb_
 refine hK_ _ _ (⟨rl6, rl7, rl8⟩) ?_
 simp only [Act.put, ZPa, ZPb, ZPc, ZPd, ZPe, ZPf]
 clear hK_
 refine eH_one (k := 7) (fuel := 4) (by kernel_rfl) rfl (by kernel_rfl) (fun K_ hK_ => ?_)
 refine wp_call_ex (f := 73) (by kernel_rfl) (ex1e (cS.at f4)) (fun v_ wq9 hX_ => ?_)
 obtain ⟨rfl, hb_⟩ := hX_
 replace rp0 := keep hb_ rp0
 replace rp1 := keep hb_ rp1
 replace rl6 := keep hb_ rl6
 replace rl7 := keep hb_ rl7
 replace rl8 := keep hb_ rl8
 replace hw := Below.after hw hb_
 replace f4 := f4.below hb_
 clear hb_
 refine hK_ _ _ (⟨rl6, rl7, rl8⟩) ?_
 simp only [Act.put, ZPa, ZPb, ZPc, ZPd, ZPe, ZPf]
 clear hK_
 refine wpAnyH_take (i := 8) (v := ?v10) rfl (by kernel_rfl) (by kernel_rfl) (by kernel_rfl) (fun _ _ _ h => h) (Or.inl ⟨by rfl, ?y10⟩) (⟨rl6, rl7, rl8⟩) ?r10
 case y10 =>
  intro w_ hS_
  go_simp
  try with_reducible rfl
 simp only [Act.put, ZPa, ZPb, ZPc, ZPd, ZPe, ZPf]
 refine wpAnyH_take (i := 9) (v := ?v11) rfl (by kernel_rfl) (by kernel_rfl) (by kernel_rfl) (fun _ _ _ h => h) (Or.inl ⟨by rfl, ?y11⟩) (⟨rl6, rl7, rl8⟩) ?r11
 case y11 =>
  intro w_ hS_
  go_simp
  try with_reducible rfl
 simp only [Act.put, ZPa, ZPb, ZPc, ZPd, ZPe, ZPf]
 refine eH_one (k := 10) (fuel := 1) (by kernel_rfl) rfl (by kernel_rfl) (fun K_ hK_ => ?_)
 refine wp_store_row 45 _ _ rfl (w.heap.size + 1) t rfl rfl 45 _ rp1 ht.info ((show _ = 20 from rfl).trans ht.size.symm) ht.one ?_
 replace rp0 := (setRow_other wq9 (w.heap.size + 1) (w.heap.size) t (by first | assumption | omega)).trans rp0
 replace rl6 := (setRow_other wq9 (w.heap.size + 1) (gu) t (by first | assumption | omega)).trans rl6
 replace rl7 := (setRow_other wq9 (w.heap.size + 1) (gu + 1) t (by first | assumption | omega)).trans rl7
 replace rl8 := (setRow_other wq9 (w.heap.size + 1) (gb) t (by first | assumption | omega)).trans rl8
 replace rp1 := setRow_heap wq9 (w.heap.size + 1) _ t _ _ rp1
 replace hw := below_setRow hw (show w.heap.size ≤ w.heap.size + 1 by first | assumption | omega) t
 replace f4 := f4.setRow (show 4 < w.heap.size + 1 by first | assumption | omega) t
 generalize wq9.setRow (w.heap.size + 1) t = wq12 at *
 refine hK_ _ _ (⟨rl6, rl7, rl8⟩) ?_
 simp only [Act.put]
 clear hK_
 refine wpAnyH_take (i := 11) (v := ?v13) rfl (by kernel_rfl) (by kernel_rfl) (by kernel_rfl) (fun _ _ _ h => h) (Or.inl ⟨by rfl, ?y13⟩) (⟨rl6, rl7, rl8⟩) ?r13
 case y13 =>
  intro w_ hS_
  go_simp
  try with_reducible rfl
 simp only [Act.put, ZPa, ZPb, ZPc, ZPd, ZPe, ZPf]
 refine wpAnyH_done (by kernel_rfl) ?_ _
 refine NoPanic.normal ?_
 go_wp2_with (fail)
 exact bodyPost_ret (v := .tuple #[.agg t, .int .i64 0]) (results_row_slot Tryd.results29 _ _ (w.heap.size + 1) _ t _ _ _ rfl rp1 rfl Tryd.underlying45 rfl ht.info) rfl ⟨rfl, hw⟩
set_option maxRecDepth 100000 in
set_option maxHeartbeats 8000000 in
theorem lift_none {k ur : Array Value} {N U : Int} {odd : Bool} {Q : E1} (hk : KeyOf k N) (hu : NumOf ur U) (cF : Gives 30 #[.agg k] (.agg ur)) (hz : decide ((U + 1) % prm = 0) = false) (hB : ∀ r, NumOf r ((U - 1) * iv (U + 1)) → (∃ t, PtO t Q ∧ Gives5 73 #[.agg r, .bool odd] (.tuple #[.agg t, .int .i64 190]))) : ∃ t, PtO t Q ∧ Gives5 29 #[.agg k, .bool odd] (.tuple #[.agg t, .int .i64 190]) := by
 obtain ⟨x3, h3, c3⟩ := a_small 1 (by decide) (by decide)
 obtain ⟨x5, h5, c5⟩ := a_add hu h3
 have c7 := a_isZero h5
 rw [hz] at c7
 obtain ⟨x9, h9, c9⟩ := a_sub hu h3
 obtain ⟨x10, h10, c10⟩ := a_inv h5
 obtain ⟨x11, h11, c11⟩ := a_mul h9 h10
 obtain ⟨t, ht, cS⟩ := hB _ h11
 refine ⟨t, ht, ?_⟩
 intro w hF
 have rp0 : ((w.alloc (.cells k 25)).alloc (.cells q20 45)).heap[w.heap.size]? = some (.cells k 25 (0, 0)) := hp2_0 w _ _
 have rp1 : ((w.alloc (.cells k 25)).alloc (.cells q20 45)).heap[w.heap.size + 1]? = some (.cells q20 45 (0, 0)) := hp2_1 w _ _
 have hw : Below w.heap.size w ((w.alloc (.cells k 25)).alloc (.cells q20 45)) := (((Below.refl _ _).alloc (Nat.le_refl _) _).alloc (by simp) _)
 have hz0 := hF.sz
 have f4 : Both ((w.alloc (.cells k 25)).alloc (.cells q20 45)) := ((hF.alloc _).alloc _)
 go_enter Tryd.func29, Tryd.ntmps29
 iterate 12 go_step
 generalize ((w.alloc (.cells k 25)).alloc (.cells q20 45)) = w0 at *
 go_wp2_with (first | (refine wpList_load_want rfl 25 _ rfl (w.heap.size) rfl 25 k (0, 0) _ rp0 Tryd.underlying25 rfl hk.info ?_) | (refine wpList_load_want rfl 45 _ rfl (w.heap.size + 1) rfl 45 q20 (0, 0) _ rp1 Tryd.underlying45 rfl (by kernel_rfl) ?_) | fail)
 refine (cF.at _).mono ?_
 rintro e w2 ⟨rfl, hb⟩
 replace rp0 := keep hb rp0
 replace rp1 := keep hb rp1
 replace hw := Below.after hw hb
 replace f4 := f4.below hb
 clear hb
 go_wp2_with (first | (refine wpList_load_want rfl 25 _ rfl (w.heap.size) rfl 25 k (0, 0) _ rp0 Tryd.underlying25 rfl hk.info ?_) | (refine wpList_load_want rfl 45 _ rfl (w.heap.size + 1) rfl 45 q20 (0, 0) _ rp1 Tryd.underlying45 rfl (by kernel_rfl) ?_) | fail)
 refine (c3.at _).mono ?_
 rintro e w4 ⟨rfl, hb⟩
 replace rp0 := keep hb rp0
 replace rp1 := keep hb rp1
 replace hw := Below.after hw hb
 replace f4 := f4.below hb
 clear hb
 go_wp2_with (first | (refine wpList_store_row rfl 43 _ _ rfl (w4.heap.size) ur rfl rfl 43 #[.int .u64 0, .int .u64 0, .int .u64 0, .int .u64 0, .int .u64 0] (hp2_0 w4 _ _) hu.info (hu.fits rfl) hu.one ?_; rw [setRow_alloc_old _ _ _ _ (by simp), setRow_alloc_new _ _ _ _ _ _ (by simp)]) | (refine wpList_store_row rfl 43 _ _ rfl (w4.heap.size + 1) x3 rfl rfl 43 #[.int .u64 0, .int .u64 0, .int .u64 0, .int .u64 0, .int .u64 0] (hp2_1 w4 _ _) h3.info (h3.fits rfl) h3.one ?_; rw [setRow_alloc_new _ _ _ _ _ _ (by simp)]; refine wpList_stay ?_) | fail)
 unfold WpStay
 try simp only [Act.put]
 have rl6 : ((w4.alloc (.cells ur 43)).alloc (.cells x3 43)).heap[w4.heap.size]? = some (.cells ur 43 (0, 0)) := hp2_0 w4 _ _
 have rl7 : ((w4.alloc (.cells ur 43)).alloc (.cells x3 43)).heap[w4.heap.size + 1]? = some (.cells x3 43 (0, 0)) := hp2_1 w4 _ _
 have hb : Below w4.heap.size w4 ((w4.alloc (.cells ur 43)).alloc (.cells x3 43)) := (((Below.refl _ _).alloc (Nat.le_refl _) _).alloc (by simp) _)
 generalize ((w4.alloc (.cells ur 43)).alloc (.cells x3 43)) = wu at *
 have ygu_0 := lt_of_row rp0
 have ygu_1 := lt_of_row rp1
 have ygu := hw.size
 have zgu := f4.sz
 replace rp0 := keep hb rp0
 replace rp1 := keep hb rp1
 replace hw := Below.after hw hb
 replace f4 := f4.below hb
 clear hb
 generalize w4.heap.size = gu at *
 clear w4
 go_wp2_with (first | (refine wpList_load_want rfl 25 _ rfl (w.heap.size) rfl 25 k (0, 0) _ rp0 Tryd.underlying25 rfl hk.info ?_) | (refine wpList_load_want rfl 45 _ rfl (w.heap.size + 1) rfl 45 q20 (0, 0) _ rp1 Tryd.underlying45 rfl (by kernel_rfl) ?_) | (refine wpList_load_want rfl 43 _ rfl (gu) rfl 43 ur (0, 0) _ rl6 Tryd.underlying43 rfl hu.info ?_) | (refine wpList_load_want rfl 43 _ rfl (gu + 1) rfl 43 x3 (0, 0) _ rl7 Tryd.underlying43 rfl h3.info ?_) | fail)
 refine (c5.at _).mono ?_
 rintro e w6 ⟨rfl, hb⟩
 replace rp0 := keep hb rp0
 replace rp1 := keep hb rp1
 replace rl6 := keep hb rl6
 replace rl7 := keep hb rl7
 replace hw := Below.after hw hb
 replace f4 := f4.below hb
 clear hb
 go_wp2_with (first | (refine wpList_store_row rfl 43 _ _ rfl (w6.heap.size) x5 rfl rfl 43 #[.int .u64 0, .int .u64 0, .int .u64 0, .int .u64 0, .int .u64 0] (hp1_0 w6 _) h5.info (h5.fits rfl) h5.one ?_; rw [setRow_alloc_new _ _ _ _ _ _ (by simp)]; refine wpList_stay ?_) | fail)
 unfold WpStay
 try simp only [Act.put]
 have rl8 : (w6.alloc (.cells x5 43)).heap[w6.heap.size]? = some (.cells x5 43 (0, 0)) := hp1_0 w6 _
 have hb : Below w6.heap.size w6 (w6.alloc (.cells x5 43)) := ((Below.refl _ _).alloc (Nat.le_refl _) _)
 generalize (w6.alloc (.cells x5 43)) = wb at *
 have ygb_0 := lt_of_row rp0
 have ygb_1 := lt_of_row rp1
 have ygb_2 := lt_of_row rl6
 have ygb_3 := lt_of_row rl7
 have ygb := hw.size
 have zgb := f4.sz
 replace rp0 := keep hb rp0
 replace rp1 := keep hb rp1
 replace rl6 := keep hb rl6
 replace rl7 := keep hb rl7
 replace hw := Below.after hw hb
 replace f4 := f4.below hb
 clear hb
 generalize w6.heap.size = gb at *
 clear w6
 go_wp2_with (first | (refine wpList_load_want rfl 25 _ rfl (w.heap.size) rfl 25 k (0, 0) _ rp0 Tryd.underlying25 rfl hk.info ?_) | (refine wpList_load_want rfl 45 _ rfl (w.heap.size + 1) rfl 45 q20 (0, 0) _ rp1 Tryd.underlying45 rfl (by kernel_rfl) ?_) | (refine wpList_load_want rfl 43 _ rfl (gu) rfl 43 ur (0, 0) _ rl6 Tryd.underlying43 rfl hu.info ?_) | (refine wpList_load_want rfl 43 _ rfl (gu + 1) rfl 43 x3 (0, 0) _ rl7 Tryd.underlying43 rfl h3.info ?_) | (refine wpList_load_want rfl 43 _ rfl (gb) rfl 43 x5 (0, 0) _ rl8 Tryd.underlying43 rfl h5.info ?_) | fail)
 refine (c7.at _).mono ?_
 rintro e w8 ⟨rfl, hb⟩
 replace rp0 := keep hb rp0
 replace rp1 := keep hb rp1
 replace rl6 := keep hb rl6
 replace rl7 := keep hb rl7
 replace rl8 := keep hb rl8
 replace hw := Below.after hw hb
 replace f4 := f4.below hb
 clear hb
 go_wp2_with (fail)
 have hbd : Below w8.heap.size w8 w8.drew := below_drN (Below.refl _ _) 1
 replace rp0 := keep hbd rp0
 replace rp1 := keep hbd rp1
 replace rl6 := keep hbd rl6
 replace rl7 := keep hbd rl7
 replace rl8 := keep hbd rl8
 replace hw := Below.after hw hbd
 replace f4 := f4.below hbd
 clear hbd
 refine wp_region_noPanic ?_
 refine wp_region_held (S := fun W_ => W_.heap[gu]? = some (.cells ur 43 (0, 0)) ∧ W_.heap[gu + 1]? = some (.cells x3 43 (0, 0)) ∧ W_.heap[gb]? = some (.cells x5 43 (0, 0))) (by kernel_rfl) ?_
 change wpAnyH _ _ _ _ _ _ _ _ (World.drew _)
 generalize w8.drew = wd14 at *
 refine wpAnyH_take (i := 0) (v := .agg ur) rfl (by kernel_rfl) (by kernel_rfl) (by kernel_rfl) (fun _ _ _ h => h) (Or.inl ⟨by rfl, ?y15⟩) (⟨rl6, rl7, rl8⟩) ?r15
 case y15 =>
  intro w_ hS_
  simp only [List.getElem_toArray, List.getElem_cons_zero]
  exact e_load_part 43 _ (by rfl) (gu) 0 (by rfl) 43 ur (0, 0) ur _ (hS_.1) (all_rowe _) Tryd.underlying43 rfl hu.info
 simp only [Act.put, ZPa, ZPc, ZPd, ZPe, ZPf]
 refine wpAnyH_take (i := 1) (v := .agg x3) rfl (by kernel_rfl) (by kernel_rfl) (by kernel_rfl) (fun _ _ _ h => h) (Or.inl ⟨by rfl, ?y16⟩) (⟨rl6, rl7, rl8⟩) ?r16
 case y16 =>
  intro w_ hS_
  simp only [List.getElem_toArray, List.getElem_cons_succ, List.getElem_cons_zero]
  exact e_load_part 43 _ (by rfl) (gu + 1) 0 (by rfl) 43 x3 (0, 0) x3 _ (hS_.2.1) (all_rowe _) Tryd.underlying43 rfl h3.info
 simp only [Act.put, ZPa, ZPb, ZPc, ZPd, ZPe, ZPf]
 refine wpAnyH_take (i := 3) (v := .agg x5) rfl (by kernel_rfl) (by kernel_rfl) (by kernel_rfl) (fun _ _ _ h => h) (Or.inl ⟨by rfl, ?y17⟩) (⟨rl6, rl7, rl8⟩) ?r17
 case y17 =>
  intro w_ hS_
  simp only [List.getElem_toArray, List.getElem_cons_succ, List.getElem_cons_zero]
  exact e_load_part 43 _ (by rfl) (gb) 0 (by rfl) 43 x5 (0, 0) x5 _ (hS_.2.2) (all_rowe _) Tryd.underlying43 rfl h5.info
 simp only [Act.put, ZPa, ZPb, ZPc, ZPd, ZPe, ZPf]
 refine wpAnyH_take (i := 6) (v := ?v18) rfl (by kernel_rfl) (by kernel_rfl) (by kernel_rfl) (fun _ _ _ h => h) (Or.inl ⟨by rfl, ?y18⟩) (⟨rl6, rl7, rl8⟩) ?r18
 case y18 =>
  intro w_ hS_
  go_simp
  try with_reducible rfl
 simp only [Act.put, ZPa, ZPb, ZPc, ZPd, ZPe, ZPf]
 refine eH_one (k := 2) (fuel := 7) (by kernel_rfl) rfl (by kernel_rfl) (fun K_ hK_ => ?_)
 refine wp_call_ex (f := 82) (by kernel_rfl) (ex1e (c9.at f4.1)) (fun v_ wq19 hX_ => ?_)
 obtain ⟨rfl, hb_⟩ := hX_
 replace rp0 := keep hb_ rp0
 replace rp1 := keep hb_ rp1
 replace rl6 := keep hb_ rl6
 replace rl7 := keep hb_ rl7
 replace rl8 := keep hb_ rl8
 replace hw := Below.after hw hb_
 replace f4 := f4.below hb_
 clear hb_
 refine hK_ _ _ (⟨rl6, rl7, rl8⟩) ?_
 simp only [Act.put, ZPa, ZPb, ZPc, ZPd, ZPe, ZPf]
 clear hK_
 refine eH_one (k := 4) (fuel := 6) (by kernel_rfl) rfl (by kernel_rfl) (fun K_ hK_ => ?_)
 refine wp_call_ex (f := 70) (by kernel_rfl) (ex1e (c10.at _)) (fun v_ wq20 hX_ => ?_)
 obtain ⟨rfl, hb_⟩ := hX_
 replace rp0 := keep hb_ rp0
 replace rp1 := keep hb_ rp1
 replace rl6 := keep hb_ rl6
 replace rl7 := keep hb_ rl7
 replace rl8 := keep hb_ rl8
 replace hw := Below.after hw hb_
 replace f4 := f4.below hb_
 clear hb_
 refine hK_ _ _ (⟨rl6, rl7, rl8⟩) ?_
 simp only [Act.put, ZPa, ZPb, ZPc, ZPd, ZPe, ZPf]
 clear hK_
 refine eH_one (k := 5) (fuel := 5) (by kernel_rfl) rfl (by kernel_rfl) (fun K_ hK_ => ?_)
 refine wp_call_ex (f := 71) (by kernel_rfl) (ex1e (c11.at _)) (fun v_ wq21 hX_ => ?_)
 obtain ⟨rfl, hb_⟩ := hX_
 replace rp0 := keep hb_ rp0
 replace rp1 := keep hb_ rp1
 replace rl6 := keep hb_ rl6
 replace rl7 := keep hb_ rl7
 replace rl8 := keep hb_ rl8
 replace hw := Below.after hw hb_
 replace f4 := f4.below hb_
 clear hb_
 refine hK_ _ _ (⟨rl6, rl7, rl8⟩) ?_
 simp only [Act.put, ZPa, ZPb, ZPc, ZPd, ZPe, ZPf]
 clear hK_
 refine eH_one (k := 7) (fuel := 4) (by kernel_rfl) rfl (by kernel_rfl) (fun K_ hK_ => ?_)
 refine wp_call_ex (f := 73) (by kernel_rfl) (ex1e (cS.at f4)) (fun v_ wq22 hX_ => ?_)
 obtain ⟨rfl, hb_⟩ := hX_
 replace rp0 := keep hb_ rp0
 replace rp1 := keep hb_ rp1
 replace rl6 := keep hb_ rl6
 replace rl7 := keep hb_ rl7
 replace rl8 := keep hb_ rl8
 replace hw := Below.after hw hb_
 replace f4 := f4.below hb_
 clear hb_
 refine hK_ _ _ (⟨rl6, rl7, rl8⟩) ?_
 simp only [Act.put, ZPa, ZPb, ZPc, ZPd, ZPe, ZPf]
 clear hK_
 refine wpAnyH_take (i := 8) (v := ?v23) rfl (by kernel_rfl) (by kernel_rfl) (by kernel_rfl) (fun _ _ _ h => h) (Or.inl ⟨by rfl, ?y23⟩) (⟨rl6, rl7, rl8⟩) ?r23
 case y23 =>
  intro w_ hS_
  go_simp
  try with_reducible rfl
 simp only [Act.put, ZPa, ZPb, ZPc, ZPd, ZPe, ZPf]
 refine wpAnyH_take (i := 9) (v := ?v24) rfl (by kernel_rfl) (by kernel_rfl) (by kernel_rfl) (fun _ _ _ h => h) (Or.inl ⟨by rfl, ?y24⟩) (⟨rl6, rl7, rl8⟩) ?r24
 case y24 =>
  intro w_ hS_
  go_simp
  try with_reducible rfl
 simp only [Act.put, ZPa, ZPb, ZPc, ZPd, ZPe, ZPf]
 refine eH_one (k := 10) (fuel := 1) (by kernel_rfl) rfl (by kernel_rfl) (fun K_ hK_ => ?_)
 refine wp_store_row 45 _ _ rfl (w.heap.size + 1) t rfl rfl 45 _ rp1 ht.info ((show _ = 20 from rfl).trans ht.size.symm) ht.one ?_
 replace rp0 := (setRow_other wq22 (w.heap.size + 1) (w.heap.size) t (by first | assumption | omega)).trans rp0
 replace rl6 := (setRow_other wq22 (w.heap.size + 1) (gu) t (by first | assumption | omega)).trans rl6
 replace rl7 := (setRow_other wq22 (w.heap.size + 1) (gu + 1) t (by first | assumption | omega)).trans rl7
 replace rl8 := (setRow_other wq22 (w.heap.size + 1) (gb) t (by first | assumption | omega)).trans rl8
 replace rp1 := setRow_heap wq22 (w.heap.size + 1) _ t _ _ rp1
 replace hw := below_setRow hw (show w.heap.size ≤ w.heap.size + 1 by first | assumption | omega) t
 replace f4 := f4.setRow (show 4 < w.heap.size + 1 by first | assumption | omega) t
 generalize wq22.setRow (w.heap.size + 1) t = wq25 at *
 refine hK_ _ _ (⟨rl6, rl7, rl8⟩) ?_
 simp only [Act.put]
 clear hK_
 refine wpAnyH_take (i := 11) (v := ?v26) rfl (by kernel_rfl) (by kernel_rfl) (by kernel_rfl) (fun _ _ _ h => h) (Or.inl ⟨by rfl, ?y26⟩) (⟨rl6, rl7, rl8⟩) ?r26
 case y26 =>
  intro w_ hS_
  go_simp
  try with_reducible rfl
 simp only [Act.put, ZPa, ZPb, ZPc, ZPd, ZPe, ZPf]
 refine wpAnyH_done (by kernel_rfl) ?_ _
 refine NoPanic.normal ?_
 go_wp2_with (fail)
 exact bodyPost_ret (v := .tuple #[.agg t, .int .i64 190]) (results_row_slot Tryd.results29 _ _ (w.heap.size + 1) _ t _ _ _ rfl rp1 rfl Tryd.underlying45 rfl ht.info) rfl ⟨rfl, hw⟩
theorem a_Lift {k : Array Value} {N : Int} (h : KeyOf k N) (odd : Bool) : ∃ t, PtO t (lp N odd) ∧ Gives5 29 #[.agg k, .bool odd] (.tuple #[.agg t, .int .i64 (le' N odd)]) := by
 obtain ⟨ur, hu, cF⟩ := a_from h
 by_cases hz : (N % 57896044618658097711785492504343953926634992332820282019728792003956564819968 + 1) % prm = 0
 ·obtain ⟨e1, e2⟩ := lift_no (odd := odd) (.inl hz)
  rw [e1, e2]
  exact ⟨_, pt_zero, lift_zero h hu cF (decide_eq_true hz)⟩
 ·by_cases hh : has ((N % 57896044618658097711785492504343953926634992332820282019728792003956564819968 - 1) * iv (N % 57896044618658097711785492504343953926634992332820282019728792003956564819968 + 1)) odd = true
  ·obtain ⟨e1, e2, e3⟩ := lift_yes hz hh
   rw [e1]
   exact lift_some h hu cF (decide_eq_false hz) (fun r hr => beside_yes hr hh e2 e3)
  ·rw [Bool.not_eq_true] at hh
   obtain ⟨e1, e2⟩ := lift_no (odd := odd) (.inr hh)
   rw [e1, e2]
   exact lift_none h hu cF (decide_eq_false hz) (fun r hr => ⟨_, pt_zero, beside_no hr hh⟩)
end Go.Proofs.YtajaiiidafkijaaDoor
namespace Go.Proofs.YtajaiiidafkijaaDoor
set_option maxRecDepth 100000
open Go Go.RowKit Go.Sort
theorem wp_world_op {P : Program} {o : Oper} {a : Act} {w : World} {K : Act → World → Prop} {Q : Exit → Act → World → Prop} (v : Value) (w' : World) (hx : (execOp a.eval o).run P w = .ok (.value v) w') (h : K (a.put o.dst v) w') : o.wp P a w K Q := by
 unfold Oper.wp
 rw [hx, Oper.upon_value]
 exact h
end Go.Proofs.YtajaiiidafkijaaDoor
namespace Go.Proofs.YtajaiiidafkijaaDoor.Wi
open Go Go.RowKit Go.Sort
/-! Two arrays of integers, held against each other. -/
section
variable {P : Program}
theorem run_part_int {e : TypeId} {k : IntKind} {i0 : TypeInfo} (w : World) (hu : P.underlying e = some (.int k)) (_hi : P.info? e = some i0) (l : List Int) (i : Nat) (h : i < l.length) :
 (part e (l.map (Value.int k)).toArray i).run P w = .ok (.int k l[i]) w := by
 have hagg : (isAgg e).run P w = .ok false w := by
  unfold isAgg
  rw [Sem.run_bind, run_underlying hu w]
  rfl
 simp [part, Sem.run_bind, hagg, h]
theorem run_eqItems_int {e : TypeId} {k : IntKind} {i0 : TypeInfo} (d : Nat) (w : World) (hu : P.underlying e = some (.int k)) (hi : P.info? e = some i0) (l l' : List Int) : ∀ (is : List Nat), (∀ i ∈ is, i < l.length ∧ i < l'.length) →
 (Op.eqItems (d + 1) e 1 (l.map (Value.int k)).toArray (l'.map (Value.int k)).toArray is).run P w = .ok (is.all fun i => l.getD i 0 == l'.getD i 0) w
 | [], _ => by simp [Op.eqItems]
 | i :: is, h => by
  have h1 := h i (by simp)
  have h2 := run_eqItems_int d w hu hi l l' is (fun j hj => h j (by simp [hj]))
  have e1 : l.getD i 0 = l[i]'h1.1 := by simp [h1.1]
  have e2 : l'.getD i 0 = l'[i]'h1.2 := by simp [h1.2]
  simp only [Op.eqItems, Sem.run_bind, Nat.mul_one, run_part_int w hu hi l i h1.1, run_part_int w hu hi l' i h1.2, Result.andThen_ok, run_equalIn_int w d e k k _ _ hu, List.all_cons, e1, e2]
  cases hb : (l[i]'h1.1 == l'[i]'h1.2)
  ·simp
  ·simpa using h2
theorem run_equal_ints {t e : TypeId} {k : IntKind} {i0 : TypeInfo} {n : Nat} (w : World) (ht : P.underlying t = some (.array n e)) (hu : P.underlying e = some (.int k)) (hi : P.info? e = some i0) (hc : P.cellsOf e = 1)
 (l l' : List Int) (hl : l.length = n) (hl' : l'.length = n) :
 (Op.equalIn 10000 t (.agg (l.map (Value.int k)).toArray) (.agg (l'.map (Value.int k)).toArray)).run P w = .ok (decide (l = l')) w := by
 rw [run_equalIn_array w 9999 _ _ ht hi, hc, run_eqItems_int 9998 w hu hi l l' (List.range n) (fun i h => by simp at h; omega)]
 congr 1
 rw [Bool.eq_iff_iff]
 simp only [List.all_eq_true, List.mem_range, beq_iff_eq, decide_eq_true_eq]
 constructor
 ·intro h
  apply List.ext_getElem (by omega)
  intro i h1 h2
  have := h i (by omega)
  simpa [h1, h2] using this
 ·rintro rfl i _
  rfl
end
/-! Calls by contract; what stays. -/
def Gives (f : FuncId) (args : Array Value) (v : Value) : Prop := ∀ W, Calls Tryd.prog f args W fun e w' => e = .returned v ∧ Below W.heap.size W w'
theorem Gives.at {f : FuncId} {args : Array Value} {v : Value} (h : Gives f args v) (W : World) : Calls Tryd.prog f args W fun e w' => e = .returned v ∧ Below W.heap.size W w' := h W
theorem Gives.re {f : FuncId} {args : Array Value} {v : Value} (h : Gives f args v) {w : World} {d : Nat} {os : Array Obj} : Calls Tryd.prog f args (grow (redrawn w d) os) fun e w'' => e = .returned v ∧ ∃ p : Regrown, w'' = grow (redrawn w p.d) p.os := Calls.regrown_of (h _)
theorem hide {p : Prop} (h : p) : Hid p := h
theorem Hid.out {p : Prop} (h : Hid p) : p := h
theorem keep {w W : World} (hb : Below w.heap.size w W) {g : Nat} {o : Obj} (h : w.heap[g]? = some o) : W.heap[g]? = some o :=
 (hb.block _ (Array.getElem?_eq_some_iff.1 h).1).trans h
theorem keepr {w : World} {g : Nat} {o : Obj} (h : w.heap[g]? = some o) : Hid (∀ W, (∃ p : Regrown, W = grow (redrawn w p.d) p.os) → W.heap[g]? = some o) := by
 rintro _ ⟨p, rfl⟩; exact keep (below_regrown w p.d p.os) h
theorem lt_of_row {w : World} {g : Nat} {o : Obj} (h : w.heap[g]? = some o) : g < w.heap.size := (Array.getElem?_eq_some_iff.1 h).1
theorem Below.after {w w1 w2 : World} (h : Below w.heap.size w w1) (hb : Below w1.heap.size w1 w2) : Below w.heap.size w w2 := h.trans (hb.mono h.size)
theorem wpList_load_want {P : Program} {ops : Array Oper} {rest : List Oper} {o : Oper} {a : Act} {w : World} {Q : Exit → Act → World → Prop} (hw : Region.wanted o (yielded ops a.tmps) = true) (ty : TypeId) (x : Operand) (ho : o.op = .load ty x)
 (g : Nat) (hx : a.eval x = .pointer (some ⟨g, 0, none⟩)) (t : TypeId) (cs : Array Value) (fr : Nat × Nat) (d : TypeDesc) (hg : w.heap[g]? = some (.cells cs t fr))
 (hu : P.underlying ty = some d) (hd : (match d with | .struct _ | .array _ _ => true | _ => false) = true) (hi : (P.info? ty).map (·.size) = some cs.size)
 (h : wpList P ops Q rest (a.put o.dst (.agg cs)) w) : wpList P ops Q (o :: rest) a w :=
 BigFrame.wpList_want hw fun _ hK => wp_load_row ty x ho g hx t cs fr d hg hu hd hi (hK _ _ h)
theorem wpList_alloc {P : Program} {ops : Array Oper} {rest : List Oper} {o : Oper} {a : Act} {w : World} {Q : Exit → Act → World → Prop} (hw : Region.wanted o (yielded ops a.tmps) = true) (ty : TypeId) (ho : o.op = .alloc ty) (cs : Array Value)
 (hz : ∀ W, (Instr.alloc ty true (.tuple #[])).run P W = .ok (.pointer (some ⟨W.heap.size, 0, none⟩)) (W.alloc (.cells cs ty)))
 (h : wpList P ops Q rest (a.put o.dst (.pointer (some ⟨w.heap.size, 0, none⟩))) (w.alloc (.cells cs ty))) : wpList P ops Q (o :: rest) a w := by
 refine BigFrame.wpList_want hw fun _ hK => wp_world_op _ _ ?_ (hK _ _ h)
 unfold execOp
 simp only [ho, Sem.run_bind, Sem.run_pure, hz, Result.andThen_ok]
theorem wpList_box {P : Program} {ops : Array Oper} {rest : List Oper} {o : Oper} {a : Act} {w : World} {Q : Exit → Act → World → Prop} (hw : Region.wanted o (yielded ops a.tmps) = true) (ty : TypeId) (x : Operand) (ho : o.op = .box ty x) (cs : Array Value) (hx : a.eval x = .agg cs)
 (hz : ∀ W, (Instr.box ty (.agg cs)).run P W = .ok (.pointer (some ⟨W.heap.size, 0, none⟩)) (W.alloc (.cells cs ty)))
 (h : wpList P ops Q rest (a.put o.dst (.pointer (some ⟨w.heap.size, 0, none⟩))) (w.alloc (.cells cs ty))) : wpList P ops Q (o :: rest) a w := by
 refine BigFrame.wpList_want hw fun _ hK => wp_world_op _ _ ?_ (hK _ _ h)
 unfold execOp
 simp only [ho, hx, Sem.run_bind, Sem.run_pure, hz, Result.andThen_ok]
theorem size_alloc1 (w : World) (o : Obj) : (w.alloc o).heap.size = w.heap.size + 1 := Array.size_push ..
theorem addr_add (b off j : Nat) : (⟨b, off, none⟩ : Addr).add j = ⟨b, off + j, none⟩ := by
 unfold Addr.add
 split
 ·rename_i h; rw [h]; rfl
 ·rfl
/-! Rows of integers. -/
def irow (k : IntKind) (l : List Int) : Array Value := (l.map (Value.int k)).toArray
theorem irow_size (k : IntKind) (l : List Int) : (irow k l).size = l.length := by simp [irow]
theorem irow_one (k : IntKind) (l : List Int) : (irow k l).all (·.oneCell') = true := by
 simp only [irow, List.all_toArray, List.all_map, List.all_eq_true]
 intro x _; rfl
theorem irow_get (k : IntKind) (l : List Int) (j : Nat) (hj : j < l.length) : (irow k l)[j]? = some (.int k (l.getD j 0)) := by
 simp [irow, List.getElem?_eq_getElem hj, List.getD_eq_getElem?_getD]
theorem irow_cell {W : World} {g : Nat} {k : IntKind} {l : List Int} {t : TypeId} (hg : W.heap[g]? = some (.cells (irow k l) t (0, 0))) {j : Nat} (hj : j < l.length) : W.cell? ⟨g, j, none⟩ = some (.int k (l.getD j 0)) := by
 simp only [World.cell?, hg]
 simpa using irow_get k l j hj
theorem row_frozen {W : World} {g : Nat} {cs : Array Value} {t : TypeId} (hg : W.heap[g]? = some (.cells cs t (0, 0))) (j : Nat) : W.frozen? ⟨g, j, none⟩ = false := by
 simp [World.frozen?, hg]
theorem irow_set {W : World} {g : Nat} {k : IntKind} {l : List Int} {t : TypeId} (hg : W.heap[g]? = some (.cells (irow k l) t (0, 0))) (j : Nat) (z : Int) : (W.setCell ⟨g, j, none⟩ (.int k z)).heap[g]? = some (.cells (irow k (l.set j z)) t (0, 0)) := by
 rw [heap_setCell_same W g j _ t _ hg]
 simp [irow, List.map_set]
theorem heap_other {W : World} {g g' j : Nat} {v : Value} {o : Obj} (h : W.heap[g']? = some o) (hne : g' ≠ g) : (W.setCell ⟨g, j, none⟩ v).heap[g']? = some o := by
 rw [← h]
 exact heap_setCell_other W ⟨g, j, none⟩ g' v hne
theorem ints_one (k : IntKind) (l : List Int) : ∀ u ∈ l.map (Value.int k), u.oneCell' = true := by
 intro u hu
 obtain ⟨z, _, rfl⟩ := List.mem_map.1 hu
 rfl
def zr (k : Nat) : List Int := List.replicate k 0
theorem zr_len (k : Nat) : (zr k).length = k := by simp [zr]
/-! Blocks of zeros, by their types. -/
theorem b24 (cs : Array Value) (W : World) : (Instr.box 29 (.agg cs)).run Tryd.prog W = .ok (.pointer (some ⟨W.heap.size, 0, none⟩)) (W.alloc (.cells cs 29)) := by kernel_rfl
def Bys (W : World) (v : Value) (bs : List Int) : Prop := ∃ ao cap, v = .slice ao bs.length cap ∧ bs.length ≤ 9223372036854775807 ∧ (∀ j, j < bs.length → ∃ b off, ao = some ⟨b, off, none⟩ ∧ b < W.heap.size ∧ W.cell? ⟨b, off + j, none⟩ = some (.int .u8 (bs.getD j 0))) ∧ (∀ z ∈ bs, 0 ≤ z ∧ z < 256)
theorem Bys.keep {W W' : World} {v : Value} {bs : List Int} (h : Bys W v bs) (hb : Below W.heap.size W W') : Bys W' v bs := by
 obtain ⟨ao, cap, e, hl, hc, hz⟩ := h
 refine ⟨ao, cap, e, hl, fun j hj => ?_, hz⟩
 obtain ⟨b, off, e1, h1, h2⟩ := hc j hj
 exact ⟨b, off, e1, Nat.lt_of_lt_of_le h1 hb.size, (hb.cell h1).trans h2⟩
theorem Bys.of_row {W : World} {g : Nat} {l : List Int} {t : TypeId} (hg : W.heap[g]? = some (.cells (irow .u8 l) t (0, 0))) (hl : l.length ≤ 9223372036854775807) (hz : ∀ z ∈ l, 0 ≤ z ∧ z < 256) (cap : Nat) : Bys W (.slice (some ⟨g, 0, none⟩) l.length cap) l := by
 refine ⟨_, cap, rfl, hl, fun j hj => ⟨g, 0, rfl, lt_of_row hg, ?_⟩, hz⟩
 rw [Nat.zero_add]
 exact irow_cell hg hj
end Go.Proofs.YtajaiiidafkijaaDoor.Wi
namespace Go.Proofs.YtajaiiidafkijaaDoor.Wi
open Go Go.RowKit Go.Sort
attribute [local go_sem] setCell_drewN alloc_drewN
theorem zw80 (W : World) : (Instr.alloc 168 true (.tuple #[])).run Tryd.prog W = .ok (.pointer (some ⟨W.heap.size, 0, none⟩)) (W.alloc (.cells (irow .u64 (zr 80)) 168)) := by kernel_rfl
theorem zw8 (W : World) : (Instr.alloc 135 true (.tuple #[])).run Tryd.prog W = .ok (.pointer (some ⟨W.heap.size, 0, none⟩)) (W.alloc (.cells (irow .u64 (zr 8)) 135)) := by kernel_rfl
theorem zwide (W : World) : (Instr.alloc 37 true (.tuple #[])).run Tryd.prog W = .ok (.pointer (some ⟨W.heap.size, 0, none⟩)) (W.alloc (.cells (irow .u8 (zr 64)) 37)) := by kernel_rfl
theorem bw80 (cs : Array Value) (W : World) : (Instr.box 168 (.agg cs)).run Tryd.prog W = .ok (.pointer (some ⟨W.heap.size, 0, none⟩)) (W.alloc (.cells cs 168)) := by kernel_rfl
theorem bw8 (cs : Array Value) (W : World) : (Instr.box 135 (.agg cs)).run Tryd.prog W = .ok (.pointer (some ⟨W.heap.size, 0, none⟩)) (W.alloc (.cells cs 135)) := by kernel_rfl
theorem bp128 (cs : Array Value) (W : World) : (Instr.box 137 (.agg cs)).run Tryd.prog W = .ok (.pointer (some ⟨W.heap.size, 0, none⟩)) (W.alloc (.cells cs 137)) := by kernel_rfl
/-! What a block comes to, on lists of numbers. -/
def rot (x : Int) (n : Nat) : Int := bits .or .u64 (x / 2 ^ n) (x * 2 ^ (64 - n) % 18446744073709551616)
def lo0 (x : Int) : Int := bits .xor .u64 (bits .xor .u64 (rot x 1) (rot x 8)) (x / 128)
def lo1 (x : Int) : Int := bits .xor .u64 (bits .xor .u64 (rot x 19) (rot x 61)) (x / 64)
def up0 (x : Int) : Int := bits .xor .u64 (bits .xor .u64 (rot x 28) (rot x 34)) (rot x 39)
def up1 (x : Int) : Int := bits .xor .u64 (bits .xor .u64 (rot x 14) (rot x 18)) (rot x 41)
theorem or_comm (x y : Int) : bits .or .u64 x y = bits .or .u64 y x := by
 unfold bits
 simp only [BitVec.or_comm]
theorem and63 : ∀ n : Nat, n < 64 → 0 < n → bits .and .u64 ((-(n : Int)) % 18446744073709551616) 63 = ((64 - n : Nat) : Int) := by decide +kernel
theorem shr_rot (m n : Nat) (h : m + n = 64) (x : Int) : bits .or .u64 (x * 2 ^ m % 18446744073709551616) (x / 2 ^ n) = rot x n := by
 rw [or_comm, rot, show 64 - n = m by omega]
set_option maxHeartbeats 1000000 in
theorem a_rotate (x : Int) (n : Nat) (h0 : 0 < n) (h1 : n < 64) : Gives 156 #[.int .u64 x, .int .i64 (-(n : Int))] (.int .u64 (rot x n)) := by
 intro w
 have ha : bits .and .u64 (IntKind.u64.wrap (-(n : Int))) 63 = ((64 - n : Nat) : Int) := by rw [IntKind.wrap_u64]; exact and63 n h1 h0
 have hn : 64 - n < 64 := by omega
 have hm : (64 - n) + n = 64 := by omega
 generalize 64 - n = m at *
 go_enter Tryd.func156, Tryd.ntmps156
 go_wp2_with (simp only [ha])
 go_ret
 refine ⟨?_, Below.refl _ _⟩
 rw [← shr_rot m n hm, show 64 - m = n by omega]
 rfl
set_option maxHeartbeats 1000000 in
theorem a_right (x : Int) (n : Nat) (h0 : 0 < n) (h1 : n < 64) : Gives 153 #[.int .u64 x, .int .i64 (n : Int)] (.int .u64 (rot x n)) := by
 intro w
 have hc := a_rotate x n h0 h1
 generalize rot x n = r at *
 go_enter Tryd.func153, Tryd.ntmps153
 go_wp2_with (fail)
 refine (hc.at _).mono ?_
 rintro e w1 ⟨rfl, hb⟩
 go_wp2
 go_ret
 exact ⟨rfl, hb⟩
end Go.Proofs.YtajaiiidafkijaaDoor.Wi

