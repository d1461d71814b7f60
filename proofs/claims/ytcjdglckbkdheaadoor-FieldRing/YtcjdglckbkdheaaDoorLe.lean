import Derived.Test.YtcjdglckbkdheaaDoorProg
import Derived.WalkKit
import Derived.WalkSpells
import Derived.WalkLawsBesides
import Derived.Lib.QuietBelow
import Derived.BigQuiet
import Derived.Test.YtcjdglckbkdheaaDoorKit
import Derived.Test.YtcjdglckbkdheaaDoorAc
import Derived.Test.YtcjdglckbkdheaaDoorAe
import Derived.Test.YtcjdglckbkdheaaDoorAf
import Derived.Test.YtcjdglckbkdheaaDoorAlloc3
namespace Go.Proofs.YtcjdglckbkdheaaDoor
open Go.RowKit Go.Sort
attribute [local go_sem] setCell_drewN alloc_drewN


set_option maxRecDepth 100000 in
set_option maxHeartbeats 4000000 in
theorem ring_any {kp kq ks : Array Value} {Np Nq Ns : Int} (hkp : KeyOf kp Np) (hkq : KeyOf kq Nq) (hks : KeyOf ks Ns) (w : World) (hF : Four w) :
    Calls Tryd.prog 6 #[.agg kp, .agg kq, .agg ks] w fun e w' => e = .returned (.bool true) ∧ Below w.heap.size w w' := by
  obtain ⟨x2, h2, c2⟩ := a_from hkp
  generalize Np % 57896044618658097711785492504343953926634992332820282019728792003956564819968 = A2 at h2
  obtain ⟨x3, h3, c3⟩ := a_from hkq
  generalize Nq % 57896044618658097711785492504343953926634992332820282019728792003956564819968 = A3 at h3
  obtain ⟨x4, h4, c4⟩ := a_from hks
  generalize Ns % 57896044618658097711785492504343953926634992332820282019728792003956564819968 = A4 at h4
  obtain ⟨x9, h9, c9⟩ := a_small 1 (by decide) (by decide)
  have c11 := a_lives hkp
  have c13 := a_lives hkq
  have c15 := a_lives hks
  obtain ⟨x18, h18, c18⟩ := a_add h2 h3
  obtain ⟨x19, h19, c19⟩ := a_add h3 h2
  have c20 := a_same_eq h18 h19 (by grind)
  obtain ⟨x21, h21, c21⟩ := a_mul h2 h3
  obtain ⟨x22, h22, c22⟩ := a_mul h3 h2
  have c23 := a_same_eq h21 h22 (by grind)
  obtain ⟨x24, h24, c24⟩ := a_add h18 h4
  obtain ⟨x25, h25, c25⟩ := a_add h3 h4
  obtain ⟨x26, h26, c26⟩ := a_add h2 h25
  have c27 := a_same_eq h24 h26 (by grind)
  obtain ⟨x29, h29, c29⟩ := a_mul h21 h4
  obtain ⟨x30, h30, c30⟩ := a_mul h3 h4
  obtain ⟨x31, h31, c31⟩ := a_mul h2 h30
  have c32 := a_same_eq h29 h31 (by grind)
  obtain ⟨x33, h33, c33⟩ := a_mul h2 h25
  obtain ⟨x34, h34, c34⟩ := a_mul h2 h4
  obtain ⟨x35, h35, c35⟩ := a_add h21 h34
  have c36 := a_same_eq h33 h35 (by grind)
  obtain ⟨x38, h38, c38⟩ := a_sub h2 h3
  obtain ⟨x39, h39, c39⟩ := a_neg h3
  obtain ⟨x40, h40, c40⟩ := a_add h2 h39
  have c41 := a_same_eq h38 h40 (by grind)
  obtain ⟨x42, h42, c42⟩ := a_neg h2
  obtain ⟨x43, h43, c43⟩ := a_add h2 h42
  have c44 := a_isZero_eq h43 (by grind)
  obtain ⟨x45, h45, c45⟩ := a_square h2
  obtain ⟨x46, h46, c46⟩ := a_mul h2 h2
  have c47 := a_same_eq h45 h46 (by grind)
  obtain ⟨x49, h49, c49⟩ := a_mul h2 h9
  have c50 := a_same_eq h49 h2 (by grind)
  obtain ⟨x51, h51, c51⟩ := a_add h2 num_zero
  have c52 := a_same_eq h51 h2 (by grind)
  obtain ⟨x53, h53, c53⟩ := a_mul h2 num_zero
  have c54 := a_isZero_eq h53 (by grind)
  obtain ⟨x55, h55, c55⟩ := a_times h2 3 (by decide) (by decide)
  obtain ⟨x56, h56, c56⟩ := a_add h2 h2
  obtain ⟨x57, h57, c57⟩ := a_add h56 h2
  have c58 := a_same_eq h55 h57 (by grind)
  go_enter Tryd.func6, Tryd.ntmps6
  go_wp2
  have rp0 : (((w.alloc (.cells kp 34)).alloc (.cells kq 34)).alloc (.cells ks 34)).heap[w.heap.size]? = some (.cells kp 34 (0, 0)) := hp3_0 w _ _ _
  have rp1 : (((w.alloc (.cells kp 34)).alloc (.cells kq 34)).alloc (.cells ks 34)).heap[w.heap.size + 1]? = some (.cells kq 34 (0, 0)) := hp3_1 w _ _ _
  have rp2 : (((w.alloc (.cells kp 34)).alloc (.cells kq 34)).alloc (.cells ks 34)).heap[w.heap.size + 1 + 1]? = some (.cells ks 34 (0, 0)) := hp3_2 w _ _ _
  have hw : Below w.heap.size w (((w.alloc (.cells kp 34)).alloc (.cells kq 34)).alloc (.cells ks 34)) := ((((Below.refl _ _).alloc (Nat.le_refl _) _).alloc (by simp) _).alloc (by simp; omega) _)
  have f4 : Four (((w.alloc (.cells kp 34)).alloc (.cells kq 34)).alloc (.cells ks 34)) := (((hF.alloc _).alloc _).alloc _)
  generalize (((w.alloc (.cells kp 34)).alloc (.cells kq 34)).alloc (.cells ks 34)) = w0 at *
  refine wp_region_alloc_ex 6 9 [7, 8, 9] (fun _ => .cells #[.int .u64 0, .int .u64 0, .int .u64 0, .int .u64 0, .int .u64 0] 26 (0, 0)) (by kernel_rfl) (by decide) (by decide) (by kernel_rfl) (by kernel_rfl) (by kernel_rfl) (by kernel_rfl) (by kernel_rfl) (by kernel_rfl) (by kernel_rfl) (by kernel_rfl) (by decide) (by decide) ?_ ?_
  · intro s l u
    rcases (by omega : s = 6 ∨ s = 7 ∨ s = 8) with rfl | rfl | rfl <;> exact ⟨_, _, rfl, rfl, rfl, rfl, fun a w => by kernel_rfl⟩
  apply Exists.intro
  constructor
  · intro v1 hb
    have Hrp0 := keepr (keep hb rp0)
    have Hrp1 := keepr (keep hb rp1)
    have Hrp2 := keepr (keep hb rp2)
    have F4 := f4.below hb
    clear hb; dsimp only [List.take]
    refine wpQuiet_load_row rfl 34 _ rfl (w.heap.size) rfl 34 kp (0, 0) _ Hrp0.out Tryd.underlying34 rfl hkp.info ?_
    simp only [Act.put, List.setIfInBounds_toArray, List.set_cons_succ, List.set_cons_zero]
    go_big_quiet_step (exact c2.re)
    refine wpQuiet_load_row rfl 34 _ rfl (w.heap.size + 1) rfl 34 kq (0, 0) _ Hrp1.out Tryd.underlying34 rfl hkq.info ?_
    simp only [Act.put, List.setIfInBounds_toArray, List.set_cons_succ, List.set_cons_zero]
    go_big_quiet_step (exact c3.re)
    refine wpQuiet_load_row rfl 34 _ rfl (w.heap.size + 1 + 1) rfl 34 ks (0, 0) _ Hrp2.out Tryd.underlying34 rfl hks.info ?_
    simp only [Act.put, List.setIfInBounds_toArray, List.set_cons_succ, List.set_cons_zero]
    go_big_quiet_step (exact c4.re)
    refine wpQuiet_nil ?_
    rfl
  intro w5 g hb hg hd
  obtain ⟨lg7, rg7⟩ := hg 7 (by simp)
  obtain ⟨lg8, rg8⟩ := hg 8 (by simp)
  obtain ⟨lg9, rg9⟩ := hg 9 (by simp)
  simp only [List.drop, puts, ptrs, List.map, List.foldl, Act.put, List.setIfInBounds_toArray, List.set_cons_succ, List.set_cons_zero]
  have d8_7 := hd 8 (by simp) 7 (by simp) (by decide)
  have d9_7 := hd 9 (by simp) 7 (by simp) (by decide)
  have d9_8 := hd 9 (by simp) 8 (by simp) (by decide)
  clear hg hd
  generalize g 7 = ga at *
  generalize g 8 = gb at *
  generalize g 9 = gc at *
  have lrp0 := lt_of_row rp0
  have lrp1 := lt_of_row rp1
  have lrp2 := lt_of_row rp2
  have hs := hw.size
  have hz := f4.1
  replace rp0 := keep hb rp0
  replace rp1 := keep hb rp1
  replace rp2 := keep hb rp2
  replace hw := Below.after hw hb
  replace f4 := f4.below hb
  clear hb
  refine wpList_store_row rfl 26 _ _ rfl ga x2 rfl rfl 26 _ rg7 h2.info (h2.fits rfl) h2.one ?_
  simp only [Act.put]
  replace rp0 := (setRow_other w5 ga (w.heap.size) x2 (by omega)).trans rp0
  replace rp1 := (setRow_other w5 ga (w.heap.size + 1) x2 (by omega)).trans rp1
  replace rp2 := (setRow_other w5 ga (w.heap.size + 1 + 1) x2 (by omega)).trans rp2
  replace rg7 := setRow_heap w5 ga _ x2 _ _ rg7
  replace rg8 := (setRow_other w5 ga gb x2 (by omega)).trans rg8
  replace rg9 := (setRow_other w5 ga gc x2 (by omega)).trans rg9
  replace hw := below_setRow hw (show w.heap.size ≤ ga by omega) x2
  replace f4 := f4.setRow (show 0 < ga by omega) x2
  generalize w5.setRow ga x2 = w6 at *
  refine wpList_store_row rfl 26 _ _ rfl gb x3 rfl rfl 26 _ rg8 h3.info (h3.fits rfl) h3.one ?_
  simp only [Act.put]
  replace rp0 := (setRow_other w6 gb (w.heap.size) x3 (by omega)).trans rp0
  replace rp1 := (setRow_other w6 gb (w.heap.size + 1) x3 (by omega)).trans rp1
  replace rp2 := (setRow_other w6 gb (w.heap.size + 1 + 1) x3 (by omega)).trans rp2
  replace rg7 := (setRow_other w6 gb ga x3 (by omega)).trans rg7
  replace rg8 := setRow_heap w6 gb _ x3 _ _ rg8
  replace rg9 := (setRow_other w6 gb gc x3 (by omega)).trans rg9
  replace hw := below_setRow hw (show w.heap.size ≤ gb by omega) x3
  replace f4 := f4.setRow (show 0 < gb by omega) x3
  generalize w6.setRow gb x3 = w7 at *
  refine wpList_store_row rfl 26 _ _ rfl gc x4 rfl rfl 26 _ rg9 h4.info (h4.fits rfl) h4.one ?_
  simp only [Act.put]
  replace rp0 := (setRow_other w7 gc (w.heap.size) x4 (by omega)).trans rp0
  replace rp1 := (setRow_other w7 gc (w.heap.size + 1) x4 (by omega)).trans rp1
  replace rp2 := (setRow_other w7 gc (w.heap.size + 1 + 1) x4 (by omega)).trans rp2
  replace rg7 := (setRow_other w7 gc ga x4 (by omega)).trans rg7
  replace rg8 := (setRow_other w7 gc gb x4 (by omega)).trans rg8
  replace rg9 := setRow_heap w7 gc _ x4 _ _ rg9
  replace hw := below_setRow hw (show w.heap.size ≤ gc by omega) x4
  replace f4 := f4.setRow (show 0 < gc by omega) x4
  generalize w7.setRow gc x4 = w8 at *
  clear hs hz lrp0 lrp1 lrp2 lg7 lg8 lg9 d8_7 d9_7 d9_8
  go_wp2_with (first | (refine wpList_load_want rfl 34 _ rfl (w.heap.size) rfl 34 kp (0, 0) _ rp0 Tryd.underlying34 rfl hkp.info ?_) | (refine wpList_load_want rfl 34 _ rfl (w.heap.size + 1) rfl 34 kq (0, 0) _ rp1 Tryd.underlying34 rfl hkq.info ?_) | (refine wpList_load_want rfl 34 _ rfl (w.heap.size + 1 + 1) rfl 34 ks (0, 0) _ rp2 Tryd.underlying34 rfl hks.info ?_) | (refine wpList_load_want rfl 26 _ rfl (ga) rfl 26 x2 (0, 0) _ rg7 Tryd.underlying26 rfl h2.info ?_) | (refine wpList_load_want rfl 26 _ rfl (gb) rfl 26 x3 (0, 0) _ rg8 Tryd.underlying26 rfl h3.info ?_) | (refine wpList_load_want rfl 26 _ rfl (gc) rfl 26 x4 (0, 0) _ rg9 Tryd.underlying26 rfl h4.info ?_) | fail)
  refine (c9.at _).mono ?_
  rintro e w10 ⟨rfl, hb⟩
  replace rp0 := keep hb rp0
  replace rp1 := keep hb rp1
  replace rp2 := keep hb rp2
  replace rg7 := keep hb rg7
  replace rg8 := keep hb rg8
  replace rg9 := keep hb rg9
  replace hw := Below.after hw hb
  replace f4 := f4.below hb
  clear hb
  go_wp2_with (first | (refine wpList_store_row rfl 26 _ _ rfl w10.heap.size x9 rfl rfl 26 #[.int .u64 0, .int .u64 0, .int .u64 0, .int .u64 0, .int .u64 0] (hp2_0 w10 _ _) h9.info (h9.fits rfl) h9.one ?_; rw [setRow_alloc_old _ _ _ _ (by simp), setRow_alloc_new _ _ _ _ _ _ rfl]) | (refine wpList_store_row rfl 26 _ _ rfl (w10.heap.size + 1) #[.int .u64 0, .int .u64 0, .int .u64 0, .int .u64 0, .int .u64 0] rfl rfl 26 #[.int .u64 0, .int .u64 0, .int .u64 0, .int .u64 0, .int .u64 0] (hp2_1 w10 _ _) num_zero.info rfl num_zero.one ?_; rw [setRow_alloc_new _ _ _ _ _ _ (by simp)]) | (refine wpList_load_want rfl 34 _ rfl (w.heap.size) rfl 34 kp (0, 0) _ (keep (((Below.refl _ _).alloc (Nat.le_refl _) _).alloc (by simp) _) rp0) Tryd.underlying34 rfl hkp.info ?_) | (refine wpList_load_want rfl 34 _ rfl (w.heap.size + 1) rfl 34 kq (0, 0) _ (keep (((Below.refl _ _).alloc (Nat.le_refl _) _).alloc (by simp) _) rp1) Tryd.underlying34 rfl hkq.info ?_) | (refine wpList_load_want rfl 34 _ rfl (w.heap.size + 1 + 1) rfl 34 ks (0, 0) _ (keep (((Below.refl _ _).alloc (Nat.le_refl _) _).alloc (by simp) _) rp2) Tryd.underlying34 rfl hks.info ?_) | (refine wpList_load_want rfl 26 _ rfl (ga) rfl 26 x2 (0, 0) _ (keep (((Below.refl _ _).alloc (Nat.le_refl _) _).alloc (by simp) _) rg7) Tryd.underlying26 rfl h2.info ?_) | (refine wpList_load_want rfl 26 _ rfl (gb) rfl 26 x3 (0, 0) _ (keep (((Below.refl _ _).alloc (Nat.le_refl _) _).alloc (by simp) _) rg8) Tryd.underlying26 rfl h3.info ?_) | (refine wpList_load_want rfl 26 _ rfl (gc) rfl 26 x4 (0, 0) _ (keep (((Below.refl _ _).alloc (Nat.le_refl _) _).alloc (by simp) _) rg9) Tryd.underlying26 rfl h4.info ?_) | fail)
  have ro : ((w10.alloc (.cells x9 26)).alloc (.cells #[.int .u64 0, .int .u64 0, .int .u64 0, .int .u64 0, .int .u64 0] 26)).heap[w10.heap.size]? = some (.cells x9 26 (0, 0)) := hp2_0 w10 _ _
  have rn : ((w10.alloc (.cells x9 26)).alloc (.cells #[.int .u64 0, .int .u64 0, .int .u64 0, .int .u64 0, .int .u64 0] 26)).heap[w10.heap.size + 1]? = some (.cells #[.int .u64 0, .int .u64 0, .int .u64 0, .int .u64 0, .int .u64 0] 26 (0, 0)) := hp2_1 w10 _ _
  have hb : Below w10.heap.size w10 ((w10.alloc (.cells x9 26)).alloc (.cells #[.int .u64 0, .int .u64 0, .int .u64 0, .int .u64 0, .int .u64 0] 26)) := ((Below.refl _ _).alloc (Nat.le_refl _) _).alloc (by simp) _
  generalize ((w10.alloc (.cells x9 26)).alloc (.cells #[.int .u64 0, .int .u64 0, .int .u64 0, .int .u64 0, .int .u64 0] 26)) = wz at *
  replace rp0 := keep hb rp0
  replace rp1 := keep hb rp1
  replace rp2 := keep hb rp2
  replace rg7 := keep hb rg7
  replace rg8 := keep hb rg8
  replace rg9 := keep hb rg9
  replace hw := Below.after hw hb
  replace f4 := f4.below hb
  clear hb
  generalize w10.heap.size = go at *
  clear w10
  refine (c11.at _).mono ?_
  rintro e w12 ⟨rfl, hb⟩
  replace rp0 := keep hb rp0
  replace rp1 := keep hb rp1
  replace rp2 := keep hb rp2
  replace rg7 := keep hb rg7
  replace rg8 := keep hb rg8
  replace rg9 := keep hb rg9
  replace ro := keep hb ro
  replace rn := keep hb rn
  replace hw := Below.after hw hb
  replace f4 := f4.below hb
  clear hb
  go_wp2_with (first | (refine wpList_load_want rfl 34 _ rfl (w.heap.size) rfl 34 kp (0, 0) _ rp0 Tryd.underlying34 rfl hkp.info ?_) | (refine wpList_load_want rfl 34 _ rfl (w.heap.size + 1) rfl 34 kq (0, 0) _ rp1 Tryd.underlying34 rfl hkq.info ?_) | (refine wpList_load_want rfl 34 _ rfl (w.heap.size + 1 + 1) rfl 34 ks (0, 0) _ rp2 Tryd.underlying34 rfl hks.info ?_) | (refine wpList_load_want rfl 26 _ rfl (ga) rfl 26 x2 (0, 0) _ rg7 Tryd.underlying26 rfl h2.info ?_) | (refine wpList_load_want rfl 26 _ rfl (gb) rfl 26 x3 (0, 0) _ rg8 Tryd.underlying26 rfl h3.info ?_) | (refine wpList_load_want rfl 26 _ rfl (gc) rfl 26 x4 (0, 0) _ rg9 Tryd.underlying26 rfl h4.info ?_) | (refine wpList_load_want rfl 26 _ rfl (go) rfl 26 x9 (0, 0) _ ro Tryd.underlying26 rfl h9.info ?_) | (refine wpList_load_want rfl 26 _ rfl (go + 1) rfl 26 #[.int .u64 0, .int .u64 0, .int .u64 0, .int .u64 0, .int .u64 0] (0, 0) _ rn Tryd.underlying26 rfl num_zero.info ?_) | fail)
  refine (c13.at _).mono ?_
  rintro e w14 ⟨rfl, hb⟩
  replace rp0 := keep hb rp0
  replace rp1 := keep hb rp1
  replace rp2 := keep hb rp2
  replace rg7 := keep hb rg7
  replace rg8 := keep hb rg8
  replace rg9 := keep hb rg9
  replace ro := keep hb ro
  replace rn := keep hb rn
  replace hw := Below.after hw hb
  replace f4 := f4.below hb
  clear hb
  go_wp2_with (first | (refine wpList_load_want rfl 34 _ rfl (w.heap.size) rfl 34 kp (0, 0) _ rp0 Tryd.underlying34 rfl hkp.info ?_) | (refine wpList_load_want rfl 34 _ rfl (w.heap.size + 1) rfl 34 kq (0, 0) _ rp1 Tryd.underlying34 rfl hkq.info ?_) | (refine wpList_load_want rfl 34 _ rfl (w.heap.size + 1 + 1) rfl 34 ks (0, 0) _ rp2 Tryd.underlying34 rfl hks.info ?_) | (refine wpList_load_want rfl 26 _ rfl (ga) rfl 26 x2 (0, 0) _ rg7 Tryd.underlying26 rfl h2.info ?_) | (refine wpList_load_want rfl 26 _ rfl (gb) rfl 26 x3 (0, 0) _ rg8 Tryd.underlying26 rfl h3.info ?_) | (refine wpList_load_want rfl 26 _ rfl (gc) rfl 26 x4 (0, 0) _ rg9 Tryd.underlying26 rfl h4.info ?_) | (refine wpList_load_want rfl 26 _ rfl (go) rfl 26 x9 (0, 0) _ ro Tryd.underlying26 rfl h9.info ?_) | (refine wpList_load_want rfl 26 _ rfl (go + 1) rfl 26 #[.int .u64 0, .int .u64 0, .int .u64 0, .int .u64 0, .int .u64 0] (0, 0) _ rn Tryd.underlying26 rfl num_zero.info ?_) | fail)
  refine (c15.at _).mono ?_
  rintro e w16 ⟨rfl, hb⟩
  replace rp0 := keep hb rp0
  replace rp1 := keep hb rp1
  replace rp2 := keep hb rp2
  replace rg7 := keep hb rg7
  replace rg8 := keep hb rg8
  replace rg9 := keep hb rg9
  replace ro := keep hb ro
  replace rn := keep hb rn
  replace hw := Below.after hw hb
  replace f4 := f4.below hb
  clear hb
  go_wp2
  have Hrp0 := keepr rp0
  have Hrp1 := keepr rp1
  have Hrp2 := keepr rp2
  have Hrg7 := keepr rg7
  have Hrg8 := keepr rg8
  have Hrg9 := keepr rg9
  have Hro := keepr ro
  have Hrn := keepr rn
  refine wp_region_quiet_below (by kernel_rfl) (by kernel_rfl) ?_
  refine wpQuiet_load_row rfl 26 _ rfl (ga) rfl 26 x2 (0, 0) _ Hrg7.out Tryd.underlying26 rfl h2.info ?_
  simp only [Act.put, List.setIfInBounds_toArray, List.set_cons_succ, List.set_cons_zero]
  refine wpQuiet_load_row rfl 26 _ rfl (gb) rfl 26 x3 (0, 0) _ Hrg8.out Tryd.underlying26 rfl h3.info ?_
  simp only [Act.put, List.setIfInBounds_toArray, List.set_cons_succ, List.set_cons_zero]
  go_big_quiet_step (exact c18.re)
  refine wpQuiet_load_row rfl 26 _ rfl (gb) rfl 26 x3 (0, 0) _ Hrg8.out Tryd.underlying26 rfl h3.info ?_
  simp only [Act.put, List.setIfInBounds_toArray, List.set_cons_succ, List.set_cons_zero]
  refine wpQuiet_load_row rfl 26 _ rfl (ga) rfl 26 x2 (0, 0) _ Hrg7.out Tryd.underlying26 rfl h2.info ?_
  simp only [Act.put, List.setIfInBounds_toArray, List.set_cons_succ, List.set_cons_zero]
  go_big_quiet_step (exact c19.re)
  go_big_quiet_step (exact c20.re)
  go_big_quiet_step (fail)
  go_big_quiet_step (fail)
  refine wpQuiet_load_want rfl 26 _ rfl (ga) rfl 26 x2 (0, 0) _ Hrg7.out Tryd.underlying26 rfl h2.info ?_
  simp only [Act.put, List.setIfInBounds_toArray, List.set_cons_succ, List.set_cons_zero]
  refine wpQuiet_load_want rfl 26 _ rfl (gb) rfl 26 x3 (0, 0) _ Hrg8.out Tryd.underlying26 rfl h3.info ?_
  simp only [Act.put, List.setIfInBounds_toArray, List.set_cons_succ, List.set_cons_zero]
  go_big_quiet_step (exact c21.re)
  refine wpQuiet_load_want rfl 26 _ rfl (gb) rfl 26 x3 (0, 0) _ Hrg8.out Tryd.underlying26 rfl h3.info ?_
  simp only [Act.put, List.setIfInBounds_toArray, List.set_cons_succ, List.set_cons_zero]
  refine wpQuiet_load_want rfl 26 _ rfl (ga) rfl 26 x2 (0, 0) _ Hrg7.out Tryd.underlying26 rfl h2.info ?_
  simp only [Act.put, List.setIfInBounds_toArray, List.set_cons_succ, List.set_cons_zero]
  go_big_quiet_step (exact c22.re)
  go_big_quiet_step (exact c23.re)
  go_big_quiet_step (fail)
  go_big_quiet_step (fail)
  go_big_quiet_step (fail)
  refine wpQuiet_load_want rfl 26 _ rfl (ga) rfl 26 x2 (0, 0) _ Hrg7.out Tryd.underlying26 rfl h2.info ?_
  simp only [Act.put, List.setIfInBounds_toArray, List.set_cons_succ, List.set_cons_zero]
  refine wpQuiet_load_want rfl 26 _ rfl (gb) rfl 26 x3 (0, 0) _ Hrg8.out Tryd.underlying26 rfl h3.info ?_
  simp only [Act.put, List.setIfInBounds_toArray, List.set_cons_succ, List.set_cons_zero]
  go_big_quiet_step (exact c18.re)
  refine wpQuiet_load_want rfl 26 _ rfl (gc) rfl 26 x4 (0, 0) _ Hrg9.out Tryd.underlying26 rfl h4.info ?_
  simp only [Act.put, List.setIfInBounds_toArray, List.set_cons_succ, List.set_cons_zero]
  go_big_quiet_step (exact c24.re)
  refine wpQuiet_load_want rfl 26 _ rfl (ga) rfl 26 x2 (0, 0) _ Hrg7.out Tryd.underlying26 rfl h2.info ?_
  simp only [Act.put, List.setIfInBounds_toArray, List.set_cons_succ, List.set_cons_zero]
  refine wpQuiet_load_want rfl 26 _ rfl (gb) rfl 26 x3 (0, 0) _ Hrg8.out Tryd.underlying26 rfl h3.info ?_
  simp only [Act.put, List.setIfInBounds_toArray, List.set_cons_succ, List.set_cons_zero]
  refine wpQuiet_load_want rfl 26 _ rfl (gc) rfl 26 x4 (0, 0) _ Hrg9.out Tryd.underlying26 rfl h4.info ?_
  simp only [Act.put, List.setIfInBounds_toArray, List.set_cons_succ, List.set_cons_zero]
  go_big_quiet_step (exact c25.re)
  go_big_quiet_step (exact c26.re)
  go_big_quiet_step (exact c27.re)
  go_big_quiet_step (fail)
  go_big_quiet_step (fail)
  refine wpQuiet_nil ?_
  rintro _ ⟨p, rfl⟩
  have hb := below_regrown w16 p.d p.os
  generalize grow (redrawn w16 p.d) p.os = w17 at *
  replace rp0 := keep hb rp0
  replace rp1 := keep hb rp1
  replace rp2 := keep hb rp2
  replace rg7 := keep hb rg7
  replace rg8 := keep hb rg8
  replace rg9 := keep hb rg9
  replace ro := keep hb ro
  replace rn := keep hb rn
  replace hw := Below.after hw hb
  replace f4 := f4.below hb
  clear hb
  clear Hrp0 Hrp1 Hrp2 Hrg7 Hrg8 Hrg9 Hro Hrn
  go_wp2
  have Hrp0 := keepr rp0
  have Hrp1 := keepr rp1
  have Hrp2 := keepr rp2
  have Hrg7 := keepr rg7
  have Hrg8 := keepr rg8
  have Hrg9 := keepr rg9
  have Hro := keepr ro
  have Hrn := keepr rn
  refine wp_region_quiet_below (by kernel_rfl) (by kernel_rfl) ?_
  refine wpQuiet_load_row rfl 26 _ rfl (ga) rfl 26 x2 (0, 0) _ Hrg7.out Tryd.underlying26 rfl h2.info ?_
  simp only [Act.put, List.setIfInBounds_toArray, List.set_cons_succ, List.set_cons_zero]
  refine wpQuiet_load_row rfl 26 _ rfl (gb) rfl 26 x3 (0, 0) _ Hrg8.out Tryd.underlying26 rfl h3.info ?_
  simp only [Act.put, List.setIfInBounds_toArray, List.set_cons_succ, List.set_cons_zero]
  go_big_quiet_step (exact c21.re)
  refine wpQuiet_load_row rfl 26 _ rfl (gc) rfl 26 x4 (0, 0) _ Hrg9.out Tryd.underlying26 rfl h4.info ?_
  simp only [Act.put, List.setIfInBounds_toArray, List.set_cons_succ, List.set_cons_zero]
  go_big_quiet_step (exact c29.re)
  refine wpQuiet_load_row rfl 26 _ rfl (ga) rfl 26 x2 (0, 0) _ Hrg7.out Tryd.underlying26 rfl h2.info ?_
  simp only [Act.put, List.setIfInBounds_toArray, List.set_cons_succ, List.set_cons_zero]
  refine wpQuiet_load_row rfl 26 _ rfl (gb) rfl 26 x3 (0, 0) _ Hrg8.out Tryd.underlying26 rfl h3.info ?_
  simp only [Act.put, List.setIfInBounds_toArray, List.set_cons_succ, List.set_cons_zero]
  refine wpQuiet_load_row rfl 26 _ rfl (gc) rfl 26 x4 (0, 0) _ Hrg9.out Tryd.underlying26 rfl h4.info ?_
  simp only [Act.put, List.setIfInBounds_toArray, List.set_cons_succ, List.set_cons_zero]
  go_big_quiet_step (exact c30.re)
  go_big_quiet_step (exact c31.re)
  go_big_quiet_step (exact c32.re)
  go_big_quiet_step (fail)
  go_big_quiet_step (fail)
  refine wpQuiet_load_want rfl 26 _ rfl (ga) rfl 26 x2 (0, 0) _ Hrg7.out Tryd.underlying26 rfl h2.info ?_
  simp only [Act.put, List.setIfInBounds_toArray, List.set_cons_succ, List.set_cons_zero]
  refine wpQuiet_load_want rfl 26 _ rfl (gb) rfl 26 x3 (0, 0) _ Hrg8.out Tryd.underlying26 rfl h3.info ?_
  simp only [Act.put, List.setIfInBounds_toArray, List.set_cons_succ, List.set_cons_zero]
  refine wpQuiet_load_want rfl 26 _ rfl (gc) rfl 26 x4 (0, 0) _ Hrg9.out Tryd.underlying26 rfl h4.info ?_
  simp only [Act.put, List.setIfInBounds_toArray, List.set_cons_succ, List.set_cons_zero]
  go_big_quiet_step (exact c25.re)
  go_big_quiet_step (exact c33.re)
  refine wpQuiet_load_want rfl 26 _ rfl (ga) rfl 26 x2 (0, 0) _ Hrg7.out Tryd.underlying26 rfl h2.info ?_
  simp only [Act.put, List.setIfInBounds_toArray, List.set_cons_succ, List.set_cons_zero]
  refine wpQuiet_load_want rfl 26 _ rfl (gb) rfl 26 x3 (0, 0) _ Hrg8.out Tryd.underlying26 rfl h3.info ?_
  simp only [Act.put, List.setIfInBounds_toArray, List.set_cons_succ, List.set_cons_zero]
  go_big_quiet_step (exact c21.re)
  refine wpQuiet_load_want rfl 26 _ rfl (ga) rfl 26 x2 (0, 0) _ Hrg7.out Tryd.underlying26 rfl h2.info ?_
  simp only [Act.put, List.setIfInBounds_toArray, List.set_cons_succ, List.set_cons_zero]
  refine wpQuiet_load_want rfl 26 _ rfl (gc) rfl 26 x4 (0, 0) _ Hrg9.out Tryd.underlying26 rfl h4.info ?_
  simp only [Act.put, List.setIfInBounds_toArray, List.set_cons_succ, List.set_cons_zero]
  go_big_quiet_step (exact c34.re)
  go_big_quiet_step (exact c35.re)
  go_big_quiet_step (exact c36.re)
  go_big_quiet_step (fail)
  go_big_quiet_step (fail)
  refine wpQuiet_nil ?_
  rintro _ ⟨p, rfl⟩
  have hb := below_regrown w17 p.d p.os
  generalize grow (redrawn w17 p.d) p.os = w28 at *
  replace rp0 := keep hb rp0
  replace rp1 := keep hb rp1
  replace rp2 := keep hb rp2
  replace rg7 := keep hb rg7
  replace rg8 := keep hb rg8
  replace rg9 := keep hb rg9
  replace ro := keep hb ro
  replace rn := keep hb rn
  replace hw := Below.after hw hb
  replace f4 := f4.below hb
  clear hb
  clear Hrp0 Hrp1 Hrp2 Hrg7 Hrg8 Hrg9 Hro Hrn
  go_wp2
  have Hrp0 := keepr rp0
  have Hrp1 := keepr rp1
  have Hrp2 := keepr rp2
  have Hrg7 := keepr rg7
  have Hrg8 := keepr rg8
  have Hrg9 := keepr rg9
  have Hro := keepr ro
  have Hrn := keepr rn
  refine wp_region_quiet_below (by kernel_rfl) (by kernel_rfl) ?_
  refine wpQuiet_load_row rfl 26 _ rfl (ga) rfl 26 x2 (0, 0) _ Hrg7.out Tryd.underlying26 rfl h2.info ?_
  simp only [Act.put, List.setIfInBounds_toArray, List.set_cons_succ, List.set_cons_zero]
  refine wpQuiet_load_row rfl 26 _ rfl (gb) rfl 26 x3 (0, 0) _ Hrg8.out Tryd.underlying26 rfl h3.info ?_
  simp only [Act.put, List.setIfInBounds_toArray, List.set_cons_succ, List.set_cons_zero]
  go_big_quiet_step (exact c38.re f4)
  refine wpQuiet_load_row rfl 26 _ rfl (ga) rfl 26 x2 (0, 0) _ Hrg7.out Tryd.underlying26 rfl h2.info ?_
  simp only [Act.put, List.setIfInBounds_toArray, List.set_cons_succ, List.set_cons_zero]
  refine wpQuiet_load_row rfl 26 _ rfl (gb) rfl 26 x3 (0, 0) _ Hrg8.out Tryd.underlying26 rfl h3.info ?_
  simp only [Act.put, List.setIfInBounds_toArray, List.set_cons_succ, List.set_cons_zero]
  go_big_quiet_step (exact c39.re f4)
  go_big_quiet_step (exact c40.re)
  go_big_quiet_step (exact c41.re)
  go_big_quiet_step (fail)
  go_big_quiet_step (fail)
  refine wpQuiet_load_want rfl 26 _ rfl (ga) rfl 26 x2 (0, 0) _ Hrg7.out Tryd.underlying26 rfl h2.info ?_
  simp only [Act.put, List.setIfInBounds_toArray, List.set_cons_succ, List.set_cons_zero]
  refine wpQuiet_load_want rfl 26 _ rfl (ga) rfl 26 x2 (0, 0) _ Hrg7.out Tryd.underlying26 rfl h2.info ?_
  simp only [Act.put, List.setIfInBounds_toArray, List.set_cons_succ, List.set_cons_zero]
  go_big_quiet_step (exact c42.re f4)
  go_big_quiet_step (exact c43.re)
  go_big_quiet_step (exact c44.re)
  go_big_quiet_step (fail)
  go_big_quiet_step (fail)
  go_big_quiet_step (fail)
  refine wpQuiet_load_want rfl 26 _ rfl (ga) rfl 26 x2 (0, 0) _ Hrg7.out Tryd.underlying26 rfl h2.info ?_
  simp only [Act.put, List.setIfInBounds_toArray, List.set_cons_succ, List.set_cons_zero]
  go_big_quiet_step (exact c45.re)
  refine wpQuiet_load_want rfl 26 _ rfl (ga) rfl 26 x2 (0, 0) _ Hrg7.out Tryd.underlying26 rfl h2.info ?_
  simp only [Act.put, List.setIfInBounds_toArray, List.set_cons_succ, List.set_cons_zero]
  refine wpQuiet_load_want rfl 26 _ rfl (ga) rfl 26 x2 (0, 0) _ Hrg7.out Tryd.underlying26 rfl h2.info ?_
  simp only [Act.put, List.setIfInBounds_toArray, List.set_cons_succ, List.set_cons_zero]
  go_big_quiet_step (exact c46.re)
  go_big_quiet_step (exact c47.re)
  go_big_quiet_step (fail)
  go_big_quiet_step (fail)
  refine wpQuiet_nil ?_
  rintro _ ⟨p, rfl⟩
  have hb := below_regrown w28 p.d p.os
  generalize grow (redrawn w28 p.d) p.os = w37 at *
  replace rp0 := keep hb rp0
  replace rp1 := keep hb rp1
  replace rp2 := keep hb rp2
  replace rg7 := keep hb rg7
  replace rg8 := keep hb rg8
  replace rg9 := keep hb rg9
  replace ro := keep hb ro
  replace rn := keep hb rn
  replace hw := Below.after hw hb
  replace f4 := f4.below hb
  clear hb
  clear Hrp0 Hrp1 Hrp2 Hrg7 Hrg8 Hrg9 Hro Hrn
  go_wp2
  have Hrp0 := keepr rp0
  have Hrp1 := keepr rp1
  have Hrp2 := keepr rp2
  have Hrg7 := keepr rg7
  have Hrg8 := keepr rg8
  have Hrg9 := keepr rg9
  have Hro := keepr ro
  have Hrn := keepr rn
  refine wp_region_quiet_below (by kernel_rfl) (by kernel_rfl) ?_
  refine wpQuiet_load_row rfl 26 _ rfl (ga) rfl 26 x2 (0, 0) _ Hrg7.out Tryd.underlying26 rfl h2.info ?_
  simp only [Act.put, List.setIfInBounds_toArray, List.set_cons_succ, List.set_cons_zero]
  refine wpQuiet_load_row rfl 26 _ rfl (go) rfl 26 x9 (0, 0) _ Hro.out Tryd.underlying26 rfl h9.info ?_
  simp only [Act.put, List.setIfInBounds_toArray, List.set_cons_succ, List.set_cons_zero]
  go_big_quiet_step (exact c49.re)
  refine wpQuiet_load_row rfl 26 _ rfl (ga) rfl 26 x2 (0, 0) _ Hrg7.out Tryd.underlying26 rfl h2.info ?_
  simp only [Act.put, List.setIfInBounds_toArray, List.set_cons_succ, List.set_cons_zero]
  go_big_quiet_step (exact c50.re)
  go_big_quiet_step (fail)
  refine wpQuiet_load_want rfl 26 _ rfl (ga) rfl 26 x2 (0, 0) _ Hrg7.out Tryd.underlying26 rfl h2.info ?_
  simp only [Act.put, List.setIfInBounds_toArray, List.set_cons_succ, List.set_cons_zero]
  refine wpQuiet_load_want rfl 26 _ rfl (go + 1) rfl 26 #[.int .u64 0, .int .u64 0, .int .u64 0, .int .u64 0, .int .u64 0] (0, 0) _ Hrn.out Tryd.underlying26 rfl num_zero.info ?_
  simp only [Act.put, List.setIfInBounds_toArray, List.set_cons_succ, List.set_cons_zero]
  go_big_quiet_step (exact c51.re)
  refine wpQuiet_load_want rfl 26 _ rfl (ga) rfl 26 x2 (0, 0) _ Hrg7.out Tryd.underlying26 rfl h2.info ?_
  simp only [Act.put, List.setIfInBounds_toArray, List.set_cons_succ, List.set_cons_zero]
  go_big_quiet_step (exact c52.re)
  go_big_quiet_step (fail)
  go_big_quiet_step (fail)
  refine wpQuiet_load_want rfl 26 _ rfl (ga) rfl 26 x2 (0, 0) _ Hrg7.out Tryd.underlying26 rfl h2.info ?_
  simp only [Act.put, List.setIfInBounds_toArray, List.set_cons_succ, List.set_cons_zero]
  refine wpQuiet_load_want rfl 26 _ rfl (go + 1) rfl 26 #[.int .u64 0, .int .u64 0, .int .u64 0, .int .u64 0, .int .u64 0] (0, 0) _ Hrn.out Tryd.underlying26 rfl num_zero.info ?_
  simp only [Act.put, List.setIfInBounds_toArray, List.set_cons_succ, List.set_cons_zero]
  go_big_quiet_step (exact c53.re)
  go_big_quiet_step (exact c54.re)
  go_big_quiet_step (fail)
  go_big_quiet_step (fail)
  refine wpQuiet_load_want rfl 26 _ rfl (ga) rfl 26 x2 (0, 0) _ Hrg7.out Tryd.underlying26 rfl h2.info ?_
  simp only [Act.put, List.setIfInBounds_toArray, List.set_cons_succ, List.set_cons_zero]
  go_big_quiet_step (exact c55.re)
  refine wpQuiet_load_want rfl 26 _ rfl (ga) rfl 26 x2 (0, 0) _ Hrg7.out Tryd.underlying26 rfl h2.info ?_
  simp only [Act.put, List.setIfInBounds_toArray, List.set_cons_succ, List.set_cons_zero]
  refine wpQuiet_load_want rfl 26 _ rfl (ga) rfl 26 x2 (0, 0) _ Hrg7.out Tryd.underlying26 rfl h2.info ?_
  simp only [Act.put, List.setIfInBounds_toArray, List.set_cons_succ, List.set_cons_zero]
  go_big_quiet_step (exact c56.re)
  refine wpQuiet_load_want rfl 26 _ rfl (ga) rfl 26 x2 (0, 0) _ Hrg7.out Tryd.underlying26 rfl h2.info ?_
  simp only [Act.put, List.setIfInBounds_toArray, List.set_cons_succ, List.set_cons_zero]
  go_big_quiet_step (exact c57.re)
  go_big_quiet_step (exact c58.re)
  go_big_quiet_step (fail)
  go_big_quiet_step (fail)
  refine wpQuiet_nil ?_
  rintro _ ⟨p, rfl⟩
  have hb := below_regrown w37 p.d p.os
  generalize grow (redrawn w37 p.d) p.os = w48 at *
  replace rp0 := keep hb rp0
  replace rp1 := keep hb rp1
  replace rp2 := keep hb rp2
  replace rg7 := keep hb rg7
  replace rg8 := keep hb rg8
  replace rg9 := keep hb rg9
  replace ro := keep hb ro
  replace rn := keep hb rn
  replace hw := Below.after hw hb
  replace f4 := f4.below hb
  clear hb
  clear Hrp0 Hrp1 Hrp2 Hrg7 Hrg8 Hrg9 Hro Hrn
  go_wp2
  go_ret
  exact ⟨rfl, hw⟩

end Go.Proofs.YtcjdglckbkdheaaDoor

