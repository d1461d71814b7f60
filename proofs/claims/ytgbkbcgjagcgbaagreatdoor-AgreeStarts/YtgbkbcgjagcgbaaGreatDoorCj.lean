import Derived.Test.YtgbkbcgjagcgbaaGreatDoorProg
import Derived.WalkKit
import Derived.WalkSpells
import Derived.WalkLawsBesides
import Derived.Lib.QuietBelow
import Derived.BigQuiet
import Derived.Test.YtgbkbcgjagcgbaaGreatDoorKa
import Derived.Test.YtgbkbcgjagcgbaaGreatDoorCac
import Derived.Test.YtgbkbcgjagcgbaaGreatDoorCi
namespace Go.Proofs.YtgbkbcgjagcgbaaGreatDoor.Lo
set_option maxRecDepth 100000
open Go.RowKit Go.Sort
attribute [local go_sem] setCell_drewN alloc_drewN
theorem stp_in (X : Int) (s : Rg) : inP (stp X s).a ∧ inP (stp X s).b ∧ inP (stp X s).c ∧ inP (stp X s).d := ⟨inP_mod _, inP_mod _, inP_mod _, inP_mod _⟩
theorem lad_in (S : Int) {X : Int} (h : inP X) : ∀ k, inP (lad S X k).a ∧ inP (lad S X k).b ∧ inP (lad S X k).c ∧ inP (lad S X k).d
 | 0 => by
   show inP 1 ∧ inP 0 ∧ inP X ∧ inP 1
   exact ⟨⟨by decide, by decide⟩, ⟨by decide, by decide⟩, h, ⟨by decide, by decide⟩⟩
 | k + 1 => by
   show inP (rnd X _ _).a ∧ _
   simp only [lad]
   generalize bt S (254 - k) = on
   generalize lad S X k = s
   obtain ⟨ia, ib, ic, id'⟩ := stp_in X (trn on s)
   cases on
   · exact ⟨ia, ib, ic, id'⟩
   · exact ⟨ic, id', ia, ib⟩
set_option maxRecDepth 100000 in
set_option maxHeartbeats 8000000 in
theorem r_scale {k u : Array Value} {K U : Int} (hk : KeyOf k K) (hu : KeyOf u U) : Gives 36 #[.agg k, .agg u] (.agg (kb (scl K U))) := by
 have cC := r_clamp hk
 have hS : KeyOf (kb (clp K)) (clp K) := kb_key _ (clp_bd K).1 (Int.lt_trans (clp_bd K).2 (by decide))
 have cF := r_from hu
 have hX : inP (num U) := inP_mod _
 change Gives _ _ (.agg (rd (num U))) at cF
 have co := r_small 1 (by decide) (by decide)
 have cz := r_small 0 (by decide) (by decide)
 obtain ⟨hia, hib, _, _⟩ := lad_in (clp K) hX 255
 have ci := r_invert hib
 have hqi := inP_mod ((lad (clp K) (num U) 255).b ^ 57896044618658097711785492504343953926634992332820282019728792003956564819947)
 have cm := r_mul hia hqi
 have hYe : (lad (clp K) (num U) 255).a * ((lad (clp K) (num U) 255).b ^ 57896044618658097711785492504343953926634992332820282019728792003956564819947 % prm) % prm = scl K U := rfl
 rw [hYe] at cm
 have cB := r_bytes (scl K U)
 have hY : KeyOf (kb (scl K U)) (scl K U) := kb_key _ (scl_bd K U).1 (scl_bd K U).2
 clear hYe
 have hz := key_zero
 generalize (lad (clp K) (num U) 255).b ^ 57896044618658097711785492504343953926634992332820282019728792003956564819947 % prm = qi at *
 generalize scl K U = Y at *
 generalize clp K = S at *
 generalize num U = X at *
 intro w
 have rp0 : (((w.alloc (.cells k 23)).alloc (.cells u 23)).alloc (.cells #[.int .u8 0, .int .u8 0, .int .u8 0, .int .u8 0, .int .u8 0, .int .u8 0, .int .u8 0, .int .u8 0, .int .u8 0, .int .u8 0, .int .u8 0, .int .u8 0, .int .u8 0, .int .u8 0, .int .u8 0, .int .u8 0, .int .u8 0, .int .u8 0, .int .u8 0, .int .u8 0, .int .u8 0, .int .u8 0, .int .u8 0, .int .u8 0, .int .u8 0, .int .u8 0, .int .u8 0, .int .u8 0, .int .u8 0, .int .u8 0, .int .u8 0, .int .u8 0] 23)).heap[w.heap.size]? = some (.cells k 23 (0, 0)) := hp3_0 w _ _ _
 have rp1 : (((w.alloc (.cells k 23)).alloc (.cells u 23)).alloc (.cells #[.int .u8 0, .int .u8 0, .int .u8 0, .int .u8 0, .int .u8 0, .int .u8 0, .int .u8 0, .int .u8 0, .int .u8 0, .int .u8 0, .int .u8 0, .int .u8 0, .int .u8 0, .int .u8 0, .int .u8 0, .int .u8 0, .int .u8 0, .int .u8 0, .int .u8 0, .int .u8 0, .int .u8 0, .int .u8 0, .int .u8 0, .int .u8 0, .int .u8 0, .int .u8 0, .int .u8 0, .int .u8 0, .int .u8 0, .int .u8 0, .int .u8 0, .int .u8 0] 23)).heap[w.heap.size + 1]? = some (.cells u 23 (0, 0)) := hp3_1 w _ _ _
 have rp2 : (((w.alloc (.cells k 23)).alloc (.cells u 23)).alloc (.cells #[.int .u8 0, .int .u8 0, .int .u8 0, .int .u8 0, .int .u8 0, .int .u8 0, .int .u8 0, .int .u8 0, .int .u8 0, .int .u8 0, .int .u8 0, .int .u8 0, .int .u8 0, .int .u8 0, .int .u8 0, .int .u8 0, .int .u8 0, .int .u8 0, .int .u8 0, .int .u8 0, .int .u8 0, .int .u8 0, .int .u8 0, .int .u8 0, .int .u8 0, .int .u8 0, .int .u8 0, .int .u8 0, .int .u8 0, .int .u8 0, .int .u8 0, .int .u8 0] 23)).heap[w.heap.size + 1 + 1]? = some (.cells #[.int .u8 0, .int .u8 0, .int .u8 0, .int .u8 0, .int .u8 0, .int .u8 0, .int .u8 0, .int .u8 0, .int .u8 0, .int .u8 0, .int .u8 0, .int .u8 0, .int .u8 0, .int .u8 0, .int .u8 0, .int .u8 0, .int .u8 0, .int .u8 0, .int .u8 0, .int .u8 0, .int .u8 0, .int .u8 0, .int .u8 0, .int .u8 0, .int .u8 0, .int .u8 0, .int .u8 0, .int .u8 0, .int .u8 0, .int .u8 0, .int .u8 0, .int .u8 0] 23 (0, 0)) := hp3_2 w _ _ _
 have hw : Below w.heap.size w (((w.alloc (.cells k 23)).alloc (.cells u 23)).alloc (.cells #[.int .u8 0, .int .u8 0, .int .u8 0, .int .u8 0, .int .u8 0, .int .u8 0, .int .u8 0, .int .u8 0, .int .u8 0, .int .u8 0, .int .u8 0, .int .u8 0, .int .u8 0, .int .u8 0, .int .u8 0, .int .u8 0, .int .u8 0, .int .u8 0, .int .u8 0, .int .u8 0, .int .u8 0, .int .u8 0, .int .u8 0, .int .u8 0, .int .u8 0, .int .u8 0, .int .u8 0, .int .u8 0, .int .u8 0, .int .u8 0, .int .u8 0, .int .u8 0] 23)) := ((((Below.refl _ _).alloc (Nat.le_refl _) _).alloc (by simp) _).alloc (by simp; omega) _)
 go_enter Tryz.func36, Tryz.ntmps36
 iterate 12 go_step
 generalize (((w.alloc (.cells k 23)).alloc (.cells u 23)).alloc (.cells #[.int .u8 0, .int .u8 0, .int .u8 0, .int .u8 0, .int .u8 0, .int .u8 0, .int .u8 0, .int .u8 0, .int .u8 0, .int .u8 0, .int .u8 0, .int .u8 0, .int .u8 0, .int .u8 0, .int .u8 0, .int .u8 0, .int .u8 0, .int .u8 0, .int .u8 0, .int .u8 0, .int .u8 0, .int .u8 0, .int .u8 0, .int .u8 0, .int .u8 0, .int .u8 0, .int .u8 0, .int .u8 0, .int .u8 0, .int .u8 0, .int .u8 0, .int .u8 0] 23)) = w0 at *
 go_wp2_with (first | (refine wpList_load_want rfl 23 _ rfl (w.heap.size) rfl 23 k (0, 0) _ rp0 Tryz.underlying23 rfl hk.info ?_) | (refine wpList_load_want rfl 23 _ rfl (w.heap.size + 1) rfl 23 u (0, 0) _ rp1 Tryz.underlying23 rfl hu.info ?_) | (refine wpList_load_want rfl 23 _ rfl (w.heap.size + 1 + 1) rfl 23 #[.int .u8 0, .int .u8 0, .int .u8 0, .int .u8 0, .int .u8 0, .int .u8 0, .int .u8 0, .int .u8 0, .int .u8 0, .int .u8 0, .int .u8 0, .int .u8 0, .int .u8 0, .int .u8 0, .int .u8 0, .int .u8 0, .int .u8 0, .int .u8 0, .int .u8 0, .int .u8 0, .int .u8 0, .int .u8 0, .int .u8 0, .int .u8 0, .int .u8 0, .int .u8 0, .int .u8 0, .int .u8 0, .int .u8 0, .int .u8 0, .int .u8 0, .int .u8 0] (0, 0) _ rp2 Tryz.underlying23 rfl hz.info ?_) | fail)
 refine (cC.at _).mono ?_
 rintro e w2 ⟨rfl, hb⟩
 replace rp0 := keep hb rp0
 replace rp1 := keep hb rp1
 replace rp2 := keep hb rp2
 replace hw := Below.after hw hb
 clear hb
 go_wp2_with (first | (refine wpList_store_row rfl 23 _ _ rfl (w2.heap.size) (kb S) rfl rfl 23 #[.int .u8 0, .int .u8 0, .int .u8 0, .int .u8 0, .int .u8 0, .int .u8 0, .int .u8 0, .int .u8 0, .int .u8 0, .int .u8 0, .int .u8 0, .int .u8 0, .int .u8 0, .int .u8 0, .int .u8 0, .int .u8 0, .int .u8 0, .int .u8 0, .int .u8 0, .int .u8 0, .int .u8 0, .int .u8 0, .int .u8 0, .int .u8 0, .int .u8 0, .int .u8 0, .int .u8 0, .int .u8 0, .int .u8 0, .int .u8 0, .int .u8 0, .int .u8 0] (hp1_0 w2 _) hS.info (hz.size.trans hS.size.symm) hS.one ?_; rw [setRow_alloc_new _ _ _ _ _ _ (by simp)]) | (refine wpList_load_want rfl 23 _ rfl (w2.heap.size) rfl 23 (kb S) (0, 0) _ (hp1_0 w2 _) Tryz.underlying23 rfl hS.info ?_) | (refine wpList_load_want rfl 23 _ rfl (w.heap.size) rfl 23 k (0, 0) _ (keep ((Below.refl _ _).alloc (Nat.le_refl _) _) rp0) Tryz.underlying23 rfl hk.info ?_) | (refine wpList_load_want rfl 23 _ rfl (w.heap.size + 1) rfl 23 u (0, 0) _ (keep ((Below.refl _ _).alloc (Nat.le_refl _) _) rp1) Tryz.underlying23 rfl hu.info ?_) | (refine wpList_load_want rfl 23 _ rfl (w.heap.size + 1 + 1) rfl 23 #[.int .u8 0, .int .u8 0, .int .u8 0, .int .u8 0, .int .u8 0, .int .u8 0, .int .u8 0, .int .u8 0, .int .u8 0, .int .u8 0, .int .u8 0, .int .u8 0, .int .u8 0, .int .u8 0, .int .u8 0, .int .u8 0, .int .u8 0, .int .u8 0, .int .u8 0, .int .u8 0, .int .u8 0, .int .u8 0, .int .u8 0, .int .u8 0, .int .u8 0, .int .u8 0, .int .u8 0, .int .u8 0, .int .u8 0, .int .u8 0, .int .u8 0, .int .u8 0] (0, 0) _ (keep ((Below.refl _ _).alloc (Nat.le_refl _) _) rp2) Tryz.underlying23 rfl hz.info ?_) | fail)
 have rl5 : (w2.alloc (.cells (kb S) 23)).heap[w2.heap.size]? = some (.cells (kb S) 23 (0, 0)) := hp1_0 w2 _
 have hb : Below w2.heap.size w2 (w2.alloc (.cells (kb S) 23)) := ((Below.refl _ _).alloc (Nat.le_refl _) _)
 generalize (w2.alloc (.cells (kb S) 23)) = wa at *
 have ygs_0 := lt_of_row rp0
 have ygs_1 := lt_of_row rp1
 have ygs_2 := lt_of_row rp2
 have ygs := hw.size
 replace rp0 := keep hb rp0
 replace rp1 := keep hb rp1
 replace rp2 := keep hb rp2
 replace hw := Below.after hw hb
 clear hb
 generalize w2.heap.size = gs at *
 clear w2
 refine (cF.at _).mono ?_
 rintro e w4 ⟨rfl, hb⟩
 replace rp0 := keep hb rp0
 replace rp1 := keep hb rp1
 replace rp2 := keep hb rp2
 replace rl5 := keep hb rl5
 replace hw := Below.after hw hb
 clear hb
 go_wp2_with (first | (refine wpList_store_row rfl 101 _ _ rfl (w4.heap.size) (rd X) rfl rfl 101 #[.int .u64 0, .int .u64 0, .int .u64 0, .int .u64 0, .int .u64 0, .int .u64 0, .int .u64 0, .int .u64 0, .int .u64 0, .int .u64 0, .int .u64 0, .int .u64 0, .int .u64 0, .int .u64 0, .int .u64 0, .int .u64 0] (hp1_0 w4 _) (rd_info X) rfl (rd_one X) ?_; rw [setRow_alloc_new _ _ _ _ _ _ (by simp)]) | fail | fail)
 have rl6 : (w4.alloc (.cells (rd X) 101)).heap[w4.heap.size]? = some (.cells (rd X) 101 (0, 0)) := hp1_0 w4 _
 have hb : Below w4.heap.size w4 (w4.alloc (.cells (rd X) 101)) := ((Below.refl _ _).alloc (Nat.le_refl _) _)
 generalize (w4.alloc (.cells (rd X) 101)) = wb at *
 have ygx_0 := lt_of_row rp0
 have ygx_1 := lt_of_row rp1
 have ygx_2 := lt_of_row rp2
 have ygx_3 := lt_of_row rl5
 have ygx := hw.size
 replace rp0 := keep hb rp0
 replace rp1 := keep hb rp1
 replace rp2 := keep hb rp2
 replace rl5 := keep hb rl5
 replace hw := Below.after hw hb
 clear hb
 generalize w4.heap.size = gx at *
 clear w4
 try simp only [Act.put]
 refine wp_region_alloc_ex 5 6 [7] (fun _ => .cells #[.int .u64 0, .int .u64 0, .int .u64 0, .int .u64 0, .int .u64 0, .int .u64 0, .int .u64 0, .int .u64 0, .int .u64 0, .int .u64 0, .int .u64 0, .int .u64 0, .int .u64 0, .int .u64 0, .int .u64 0, .int .u64 0, .int .u64 0, .int .u64 0, .int .u64 0, .int .u64 0, .int .u64 0, .int .u64 0, .int .u64 0, .int .u64 0, .int .u64 0, .int .u64 0, .int .u64 0, .int .u64 0, .int .u64 0, .int .u64 0, .int .u64 0, .int .u64 0, .int .u64 0, .int .u64 0, .int .u64 0, .int .u64 0, .int .u64 0, .int .u64 0, .int .u64 0, .int .u64 0, .int .u64 0, .int .u64 0, .int .u64 0, .int .u64 0, .int .u64 0, .int .u64 0, .int .u64 0, .int .u64 0, .int .u64 0, .int .u64 0, .int .u64 0, .int .u64 0, .int .u64 0, .int .u64 0, .int .u64 0, .int .u64 0, .int .u64 0, .int .u64 0, .int .u64 0, .int .u64 0, .int .u64 0, .int .u64 0, .int .u64 0, .int .u64 0] 105 (0, 0)) (by kernel_rfl) (by decide) (by decide) (by kernel_rfl) (by kernel_rfl) (by kernel_rfl) (by kernel_rfl) (by kernel_rfl) (by kernel_rfl) (by kernel_rfl) (by kernel_rfl) (by decide) (by decide) ?_ ?_
 · intro s l u
   rcases (by omega : s = 5) with rfl <;> exact ⟨_, _, rfl, rfl, rfl, rfl, fun a w => by kernel_rfl⟩
 apply Exists.intro
 constructor
 · intro v5 hb
   have Hrp0 := keepr (keep hb rp0)
   have Hrp1 := keepr (keep hb rp1)
   have Hrp2 := keepr (keep hb rp2)
   have Hrl5 := keepr (keep hb rl5)
   have Hrl6 := keepr (keep hb rl6)
   skip
   clear hb; dsimp only [List.take]
   go_big_quiet_step (exact co.re)
   go_big_quiet_step (exact cz.re)
   refine wpQuiet_load_row rfl 101 _ rfl (gx) rfl 101 (rd X) (0, 0) _ Hrl6.out Tryz.underlying101 rfl (rd_info X) ?_
   simp only [Act.put, List.setIfInBounds_toArray, List.set_cons_succ, List.set_cons_zero]
   go_big_quiet_step (exact co.re)
   refine wpQuiet_build rfl 105 _ rfl [(0, .agg (rd 1)), (1, .agg (rd 0)), (2, .agg (rd X)), (3, .agg (rd 1))] rfl (r4 (rd 1) (rd 0) (rd X) (rd 1)) (refs_built (rd_size 1) (rd_size 0) (rd_size X) (rd_size 1)) ?_
   simp only [Act.put, List.setIfInBounds_toArray, List.set_cons_succ, List.set_cons_zero]
   refine wpQuiet_nil ?_
   rfl
 intro w8 g hb hg hd
 obtain ⟨lg7, rg7⟩ := hg 7 (by simp)
 replace rg7 : w8.heap[g 7]? = some (.cells #[.int .u64 0, .int .u64 0, .int .u64 0, .int .u64 0, .int .u64 0, .int .u64 0, .int .u64 0, .int .u64 0, .int .u64 0, .int .u64 0, .int .u64 0, .int .u64 0, .int .u64 0, .int .u64 0, .int .u64 0, .int .u64 0, .int .u64 0, .int .u64 0, .int .u64 0, .int .u64 0, .int .u64 0, .int .u64 0, .int .u64 0, .int .u64 0, .int .u64 0, .int .u64 0, .int .u64 0, .int .u64 0, .int .u64 0, .int .u64 0, .int .u64 0, .int .u64 0, .int .u64 0, .int .u64 0, .int .u64 0, .int .u64 0, .int .u64 0, .int .u64 0, .int .u64 0, .int .u64 0, .int .u64 0, .int .u64 0, .int .u64 0, .int .u64 0, .int .u64 0, .int .u64 0, .int .u64 0, .int .u64 0, .int .u64 0, .int .u64 0, .int .u64 0, .int .u64 0, .int .u64 0, .int .u64 0, .int .u64 0, .int .u64 0, .int .u64 0, .int .u64 0, .int .u64 0, .int .u64 0, .int .u64 0, .int .u64 0, .int .u64 0, .int .u64 0] 105 (0, 0)) := rg7
 simp only [List.drop, puts, ptrs, List.map, List.foldl, Act.put, List.setIfInBounds_toArray, List.set_cons_succ, List.set_cons_zero]
 clear hg hd
 generalize g 7 = gr at *
 have lrp0 := lt_of_row rp0
 have lrp1 := lt_of_row rp1
 have lrp2 := lt_of_row rp2
 have lrl5 := lt_of_row rl5
 have lrl6 := lt_of_row rl6
 have hs := hw.size
 replace rp0 := keep hb rp0
 replace rp1 := keep hb rp1
 replace rp2 := keep hb rp2
 replace rl5 := keep hb rl5
 replace rl6 := keep hb rl6
 replace hw := Below.after hw hb
 clear hb
 refine wpList_store_row rfl 105 _ _ rfl gr (r4 (rd 1) (rd 0) (rd X) (rd 1)) rfl rfl 105 _ rg7 (refs_info (rd_size 1) (rd_size 0) (rd_size X) (rd_size 1)) (refs_size (rd_size 1) (rd_size 0) (rd_size X) (rd_size 1)).symm (r4_one (rd_one 1) (rd_one 0) (rd_one X) (rd_one 1)) ?_
 simp only [Act.put]
 replace rp0 := (setRow_other w8 gr (w.heap.size) (r4 (rd 1) (rd 0) (rd X) (rd 1)) (by omega)).trans rp0
 replace rp1 := (setRow_other w8 gr (w.heap.size + 1) (r4 (rd 1) (rd 0) (rd X) (rd 1)) (by omega)).trans rp1
 replace rp2 := (setRow_other w8 gr (w.heap.size + 1 + 1) (r4 (rd 1) (rd 0) (rd X) (rd 1)) (by omega)).trans rp2
 replace rl5 := (setRow_other w8 gr (gs) (r4 (rd 1) (rd 0) (rd X) (rd 1)) (by omega)).trans rl5
 replace rl6 := (setRow_other w8 gr (gx) (r4 (rd 1) (rd 0) (rd X) (rd 1)) (by omega)).trans rl6
 replace rg7 := setRow_heap w8 gr _ (r4 (rd 1) (rd 0) (rd X) (rd 1)) _ _ rg7
 replace hw := below_setRow hw (show w.heap.size ≤ gr by omega) (r4 (rd 1) (rd 0) (rd X) (rd 1))
 generalize w8.setRow gr (r4 (rd 1) (rd 0) (rd X) (rd 1)) = w9 at *
 have ygr_0 : w.heap.size < gr := by omega
 have ygr_1 : w.heap.size + 1 < gr := by omega
 have ygr_2 : w.heap.size + 1 + 1 < gr := by omega
 have ygr_3 : gs < gr := by omega
 have ygr_4 : gx < gr := by omega
 have ygr : w.heap.size ≤ gr := by omega
 clear hs lrp0 lrp1 lrp2 lrl5 lrl6 lg7
 go_wp2
 go_loopw [8] (fun i wr => ∃ k : Nat, k ≤ 255 ∧ i = .int .i64 (254 - (k : Int)) ∧ wr.heap[w.heap.size + 1 + 1]? = some (.cells #[.int .u8 0, .int .u8 0, .int .u8 0, .int .u8 0, .int .u8 0, .int .u8 0, .int .u8 0, .int .u8 0, .int .u8 0, .int .u8 0, .int .u8 0, .int .u8 0, .int .u8 0, .int .u8 0, .int .u8 0, .int .u8 0, .int .u8 0, .int .u8 0, .int .u8 0, .int .u8 0, .int .u8 0, .int .u8 0, .int .u8 0, .int .u8 0, .int .u8 0, .int .u8 0, .int .u8 0, .int .u8 0, .int .u8 0, .int .u8 0, .int .u8 0, .int .u8 0] 23 (0, 0)) ∧ wr.heap[gs]? = some (.cells (kb S) 23 (0, 0)) ∧ wr.heap[gx]? = some (.cells (rd X) 101 (0, 0)) ∧ wr.heap[gr]? = some (.cells (r4 (rd (lad S X k).a) (rd (lad S X k).b) (rd (lad S X k).c) (rd (lad S X k).d)) 105 (0, 0)) ∧ Below w.heap.size w wr) (fun i _ => (intOf i + 1).toNat)
 case atStart => exact ⟨0, by omega, rfl, rp2, rl5, rl6, rg7, hw⟩
 case round =>
   clear rp0 rp1 rp2 rl5 rl6 rg7 hw
   obtain ⟨k, hk', rfl, rp2, rl5, rl6, rg7, hw⟩ := hrel
   by_cases hlt : k < 255
   · have hd : decide ((0 : Int) ≤ 254 - (k : Int)) = true := by simp; omega
     have cb := r_bit S (254 - k) (by omega)
     rw [show ((254 - k : Nat) : Int) = 254 - (k : Int) by omega] at cb
     obtain ⟨ia, ib, ic, id'⟩ := lad_in S hX k
     have hn : lad S X (k + 1) = rnd X (bt S (254 - k)) (lad S X k) := rfl
     generalize hL1 : lad S X (k + 1) = L' at *
     generalize bt S (254 - k) = on at *
     generalize lad S X k = L at *
     obtain ⟨la, lb, lc, ld⟩ := L
     simp only at ia ib ic id' rg7
     go_wp2_with (first | (refine wpList_load_want rfl 23 _ rfl (w.heap.size + 1 + 1) rfl 23 #[.int .u8 0, .int .u8 0, .int .u8 0, .int .u8 0, .int .u8 0, .int .u8 0, .int .u8 0, .int .u8 0, .int .u8 0, .int .u8 0, .int .u8 0, .int .u8 0, .int .u8 0, .int .u8 0, .int .u8 0, .int .u8 0, .int .u8 0, .int .u8 0, .int .u8 0, .int .u8 0, .int .u8 0, .int .u8 0, .int .u8 0, .int .u8 0, .int .u8 0, .int .u8 0, .int .u8 0, .int .u8 0, .int .u8 0, .int .u8 0, .int .u8 0, .int .u8 0] (0, 0) _ rp2 Tryz.underlying23 rfl hz.info ?_) | (refine wpList_load_want rfl 23 _ rfl (gs) rfl 23 (kb S) (0, 0) _ rl5 Tryz.underlying23 rfl hS.info ?_) | (refine wpList_load_want rfl 101 _ rfl (gx) rfl 101 (rd X) (0, 0) _ rl6 Tryz.underlying101 rfl (rd_info X) ?_) | (refine wpList_load_want rfl 105 _ rfl (gr) rfl 105 (r4 (rd la) (rd lb) (rd lc) (rd ld)) (0, 0) _ rg7 Tryz.underlying105 rfl (refs_info (rd_size la) (rd_size lb) (rd_size lc) (rd_size ld)) ?_) | (refine wpList_load_part rfl 101 _ rfl (gr) 0 rfl 105 (r4 (rd la) (rd lb) (rd lc) (rd ld)) (0, 0) (rd la) _ rg7 p_0 Tryz.underlying101 rfl (rd_info la) ?_) | (refine wpList_load_part rfl 101 _ rfl (gr) 16 rfl 105 (r4 (rd la) (rd lb) (rd lc) (rd ld)) (0, 0) (rd lb) _ rg7 (p16_1 (rd_size la)) Tryz.underlying101 rfl (rd_info lb) ?_) | (refine wpList_load_part rfl 101 _ rfl (gr) 32 rfl 105 (r4 (rd la) (rd lb) (rd lc) (rd ld)) (0, 0) (rd lc) _ rg7 (p16_2 (rd_size la) (rd_size lb)) Tryz.underlying101 rfl (rd_info lc) ?_) | (refine wpList_load_part rfl 101 _ rfl (gr) 48 rfl 105 (r4 (rd la) (rd lb) (rd lc) (rd ld)) (0, 0) (rd ld) _ rg7 (p16_3 (rd_size la) (rd_size lb) (rd_size lc)) Tryz.underlying101 rfl (rd_info ld) ?_) | fail)
     refine (cb.at _).mono ?_
     rintro e w11 ⟨rfl, hb⟩
     replace rp2 := keep hb rp2
     replace rl5 := keep hb rl5
     replace rl6 := keep hb rl6
     replace rg7 := keep hb rg7
     replace hw := Below.after hw hb
     clear hb
     cases on with
     | false =>
       have cS := r_step ia ib ic id' hX
       obtain ⟨ja, jb, jc, jd⟩ := stp_in X ⟨la, lb, lc, ld⟩
       have hL : L' = stp X ⟨la, lb, lc, ld⟩ := hn
       generalize stp X ⟨la, lb, lc, ld⟩ = T at *
       obtain ⟨sa, sb, sc, sd⟩ := T
       simp only at cS ja jb jc jd
       subst hL
       go_wp2_with (first | (refine wpList_load_want rfl 23 _ rfl (w.heap.size + 1 + 1) rfl 23 #[.int .u8 0, .int .u8 0, .int .u8 0, .int .u8 0, .int .u8 0, .int .u8 0, .int .u8 0, .int .u8 0, .int .u8 0, .int .u8 0, .int .u8 0, .int .u8 0, .int .u8 0, .int .u8 0, .int .u8 0, .int .u8 0, .int .u8 0, .int .u8 0, .int .u8 0, .int .u8 0, .int .u8 0, .int .u8 0, .int .u8 0, .int .u8 0, .int .u8 0, .int .u8 0, .int .u8 0, .int .u8 0, .int .u8 0, .int .u8 0, .int .u8 0, .int .u8 0] (0, 0) _ rp2 Tryz.underlying23 rfl hz.info ?_) | (refine wpList_load_want rfl 23 _ rfl (gs) rfl 23 (kb S) (0, 0) _ rl5 Tryz.underlying23 rfl hS.info ?_) | (refine wpList_load_want rfl 101 _ rfl (gx) rfl 101 (rd X) (0, 0) _ rl6 Tryz.underlying101 rfl (rd_info X) ?_) | (refine wpList_load_want rfl 105 _ rfl (gr) rfl 105 (r4 (rd la) (rd lb) (rd lc) (rd ld)) (0, 0) _ rg7 Tryz.underlying105 rfl (refs_info (rd_size la) (rd_size lb) (rd_size lc) (rd_size ld)) ?_) | (refine wpList_load_part rfl 101 _ rfl (gr) 0 rfl 105 (r4 (rd la) (rd lb) (rd lc) (rd ld)) (0, 0) (rd la) _ rg7 p_0 Tryz.underlying101 rfl (rd_info la) ?_) | (refine wpList_load_part rfl 101 _ rfl (gr) 16 rfl 105 (r4 (rd la) (rd lb) (rd lc) (rd ld)) (0, 0) (rd lb) _ rg7 (p16_1 (rd_size la)) Tryz.underlying101 rfl (rd_info lb) ?_) | (refine wpList_load_part rfl 101 _ rfl (gr) 32 rfl 105 (r4 (rd la) (rd lb) (rd lc) (rd ld)) (0, 0) (rd lc) _ rg7 (p16_2 (rd_size la) (rd_size lb)) Tryz.underlying101 rfl (rd_info lc) ?_) | (refine wpList_load_part rfl 101 _ rfl (gr) 48 rfl 105 (r4 (rd la) (rd lb) (rd lc) (rd ld)) (0, 0) (rd ld) _ rg7 (p16_3 (rd_size la) (rd_size lb) (rd_size lc)) Tryz.underlying101 rfl (rd_info ld) ?_) | fail)
       refine (cS.at _).mono ?_
       rintro e w13 ⟨rfl, hb⟩
       replace rp2 := keep hb rp2
       replace rl5 := keep hb rl5
       replace rl6 := keep hb rl6
       replace rg7 := keep hb rg7
       replace hw := Below.after hw hb
       clear hb
       go_wp2_with (first | (refine wpList_store_row rfl 105 _ _ rfl (gr) (r4 (rd sa) (rd sb) (rd sc) (rd sd)) rfl rfl 105 _ rg7 (refs_info (rd_size sa) (rd_size sb) (rd_size sc) (rd_size sd)) ((refs_size (rd_size la) (rd_size lb) (rd_size lc) (rd_size ld)).trans (refs_size (rd_size sa) (rd_size sb) (rd_size sc) (rd_size sd)).symm) (r4_one (rd_one sa) (rd_one sb) (rd_one sc) (rd_one sd)) ?_) | fail)
       replace rp2 := (setRow_other w13 (gr) (w.heap.size + 1 + 1) (r4 (rd sa) (rd sb) (rd sc) (rd sd)) (by first | assumption | omega)).trans rp2
       replace rl5 := (setRow_other w13 (gr) (gs) (r4 (rd sa) (rd sb) (rd sc) (rd sd)) (by first | assumption | omega)).trans rl5
       replace rl6 := (setRow_other w13 (gr) (gx) (r4 (rd sa) (rd sb) (rd sc) (rd sd)) (by first | assumption | omega)).trans rl6
       replace rg7 := setRow_heap w13 (gr) _ (r4 (rd sa) (rd sb) (rd sc) (rd sd)) _ _ rg7
       replace hw := below_setRow hw (show w.heap.size ≤ gr by first | assumption | omega) (r4 (rd sa) (rd sb) (rd sc) (rd sd))
       generalize w13.setRow (gr) (r4 (rd sa) (rd sb) (rd sc) (rd sd)) = w14 at *
       go_roundw
       case rel => exact ⟨k + 1, by omega, by go_num, rp2, rl5, rl6, by rw [hL1]; exact rg7, hw⟩
       case measure => simp [intOf]; omega
     | true =>
       have cT1 := r_turned la lb lc ld
       have cS := r_step ic id' ia ib hX
       obtain ⟨ja, jb, jc, jd⟩ := stp_in X ⟨lc, ld, la, lb⟩
       have hL : L' = ⟨(stp X ⟨lc, ld, la, lb⟩).c, (stp X ⟨lc, ld, la, lb⟩).d, (stp X ⟨lc, ld, la, lb⟩).a, (stp X ⟨lc, ld, la, lb⟩).b⟩ := hn
       generalize stp X ⟨lc, ld, la, lb⟩ = T at *
       obtain ⟨sa, sb, sc, sd⟩ := T
       simp only at hL cS ja jb jc jd
       subst hL
       have cT2 := r_turned sa sb sc sd
       go_wp2_with (first | (refine wpList_load_want rfl 23 _ rfl (w.heap.size + 1 + 1) rfl 23 #[.int .u8 0, .int .u8 0, .int .u8 0, .int .u8 0, .int .u8 0, .int .u8 0, .int .u8 0, .int .u8 0, .int .u8 0, .int .u8 0, .int .u8 0, .int .u8 0, .int .u8 0, .int .u8 0, .int .u8 0, .int .u8 0, .int .u8 0, .int .u8 0, .int .u8 0, .int .u8 0, .int .u8 0, .int .u8 0, .int .u8 0, .int .u8 0, .int .u8 0, .int .u8 0, .int .u8 0, .int .u8 0, .int .u8 0, .int .u8 0, .int .u8 0, .int .u8 0] (0, 0) _ rp2 Tryz.underlying23 rfl hz.info ?_) | (refine wpList_load_want rfl 23 _ rfl (gs) rfl 23 (kb S) (0, 0) _ rl5 Tryz.underlying23 rfl hS.info ?_) | (refine wpList_load_want rfl 101 _ rfl (gx) rfl 101 (rd X) (0, 0) _ rl6 Tryz.underlying101 rfl (rd_info X) ?_) | (refine wpList_load_want rfl 105 _ rfl (gr) rfl 105 (r4 (rd la) (rd lb) (rd lc) (rd ld)) (0, 0) _ rg7 Tryz.underlying105 rfl (refs_info (rd_size la) (rd_size lb) (rd_size lc) (rd_size ld)) ?_) | (refine wpList_load_part rfl 101 _ rfl (gr) 0 rfl 105 (r4 (rd la) (rd lb) (rd lc) (rd ld)) (0, 0) (rd la) _ rg7 p_0 Tryz.underlying101 rfl (rd_info la) ?_) | (refine wpList_load_part rfl 101 _ rfl (gr) 16 rfl 105 (r4 (rd la) (rd lb) (rd lc) (rd ld)) (0, 0) (rd lb) _ rg7 (p16_1 (rd_size la)) Tryz.underlying101 rfl (rd_info lb) ?_) | (refine wpList_load_part rfl 101 _ rfl (gr) 32 rfl 105 (r4 (rd la) (rd lb) (rd lc) (rd ld)) (0, 0) (rd lc) _ rg7 (p16_2 (rd_size la) (rd_size lb)) Tryz.underlying101 rfl (rd_info lc) ?_) | (refine wpList_load_part rfl 101 _ rfl (gr) 48 rfl 105 (r4 (rd la) (rd lb) (rd lc) (rd ld)) (0, 0) (rd ld) _ rg7 (p16_3 (rd_size la) (rd_size lb) (rd_size lc)) Tryz.underlying101 rfl (rd_info ld) ?_) | fail)
       refine (cT1.at _).mono ?_
       rintro e w63 ⟨rfl, hb⟩
       replace rp2 := keep hb rp2
       replace rl5 := keep hb rl5
       replace rl6 := keep hb rl6
       replace rg7 := keep hb rg7
       replace hw := Below.after hw hb
       clear hb
       go_wp2_with (first | (refine wpList_store_row rfl 105 _ _ rfl (gr) (r4 (rd lc) (rd ld) (rd la) (rd lb)) rfl rfl 105 _ rg7 (refs_info (rd_size lc) (rd_size ld) (rd_size la) (rd_size lb)) ((refs_size (rd_size la) (rd_size lb) (rd_size lc) (rd_size ld)).trans (refs_size (rd_size lc) (rd_size ld) (rd_size la) (rd_size lb)).symm) (r4_one (rd_one lc) (rd_one ld) (rd_one la) (rd_one lb)) ?_) | (refine wpList_load_want rfl 101 _ rfl (gx) rfl 101 (rd X) (0, 0) _ ((setRow_other w63 gr gx (r4 (rd lc) (rd ld) (rd la) (rd lb)) (by omega)).trans rl6) Tryz.underlying101 rfl (rd_info X) ?_) | (refine wpList_load_want rfl 105 _ rfl (gr) rfl 105 (r4 (rd lc) (rd ld) (rd la) (rd lb)) (0, 0) _ (setRow_heap w63 (gr) _ (r4 (rd lc) (rd ld) (rd la) (rd lb)) _ _ rg7) Tryz.underlying105 rfl (refs_info (rd_size lc) (rd_size ld) (rd_size la) (rd_size lb)) ?_) | fail)
       replace rp2 := (setRow_other w63 (gr) (w.heap.size + 1 + 1) (r4 (rd lc) (rd ld) (rd la) (rd lb)) (by first | assumption | omega)).trans rp2
       replace rl5 := (setRow_other w63 (gr) (gs) (r4 (rd lc) (rd ld) (rd la) (rd lb)) (by first | assumption | omega)).trans rl5
       replace rl6 := (setRow_other w63 (gr) (gx) (r4 (rd lc) (rd ld) (rd la) (rd lb)) (by first | assumption | omega)).trans rl6
       replace rg7 := setRow_heap w63 (gr) _ (r4 (rd lc) (rd ld) (rd la) (rd lb)) _ _ rg7
       replace hw := below_setRow hw (show w.heap.size ≤ gr by first | assumption | omega) (r4 (rd lc) (rd ld) (rd la) (rd lb))
       generalize w63.setRow (gr) (r4 (rd lc) (rd ld) (rd la) (rd lb)) = w64 at *
       refine (cS.at _).mono ?_
       rintro e w66 ⟨rfl, hb⟩
       replace rp2 := keep hb rp2
       replace rl5 := keep hb rl5
       replace rl6 := keep hb rl6
       replace rg7 := keep hb rg7
       replace hw := Below.after hw hb
       clear hb
       go_wp2_with (first | (refine wpList_store_row rfl 105 _ _ rfl (gr) (r4 (rd sa) (rd sb) (rd sc) (rd sd)) rfl rfl 105 _ rg7 (refs_info (rd_size sa) (rd_size sb) (rd_size sc) (rd_size sd)) ((refs_size (rd_size lc) (rd_size ld) (rd_size la) (rd_size lb)).trans (refs_size (rd_size sa) (rd_size sb) (rd_size sc) (rd_size sd)).symm) (r4_one (rd_one sa) (rd_one sb) (rd_one sc) (rd_one sd)) ?_) | (refine wpList_load_want rfl 105 _ rfl (gr) rfl 105 (r4 (rd sa) (rd sb) (rd sc) (rd sd)) (0, 0) _ (setRow_heap w66 (gr) _ (r4 (rd sa) (rd sb) (rd sc) (rd sd)) _ _ rg7) Tryz.underlying105 rfl (refs_info (rd_size sa) (rd_size sb) (rd_size sc) (rd_size sd)) ?_) | fail)
       replace rp2 := (setRow_other w66 (gr) (w.heap.size + 1 + 1) (r4 (rd sa) (rd sb) (rd sc) (rd sd)) (by first | assumption | omega)).trans rp2
       replace rl5 := (setRow_other w66 (gr) (gs) (r4 (rd sa) (rd sb) (rd sc) (rd sd)) (by first | assumption | omega)).trans rl5
       replace rl6 := (setRow_other w66 (gr) (gx) (r4 (rd sa) (rd sb) (rd sc) (rd sd)) (by first | assumption | omega)).trans rl6
       replace rg7 := setRow_heap w66 (gr) _ (r4 (rd sa) (rd sb) (rd sc) (rd sd)) _ _ rg7
       replace hw := below_setRow hw (show w.heap.size ≤ gr by first | assumption | omega) (r4 (rd sa) (rd sb) (rd sc) (rd sd))
       generalize w66.setRow (gr) (r4 (rd sa) (rd sb) (rd sc) (rd sd)) = w67 at *
       refine (cT2.at _).mono ?_
       rintro e w69 ⟨rfl, hb⟩
       replace rp2 := keep hb rp2
       replace rl5 := keep hb rl5
       replace rl6 := keep hb rl6
       replace rg7 := keep hb rg7
       replace hw := Below.after hw hb
       clear hb
       go_wp2_with (first | (refine wpList_store_row rfl 105 _ _ rfl (gr) (r4 (rd sc) (rd sd) (rd sa) (rd sb)) rfl rfl 105 _ rg7 (refs_info (rd_size sc) (rd_size sd) (rd_size sa) (rd_size sb)) ((refs_size (rd_size sa) (rd_size sb) (rd_size sc) (rd_size sd)).trans (refs_size (rd_size sc) (rd_size sd) (rd_size sa) (rd_size sb)).symm) (r4_one (rd_one sc) (rd_one sd) (rd_one sa) (rd_one sb)) ?_) | fail)
       replace rp2 := (setRow_other w69 (gr) (w.heap.size + 1 + 1) (r4 (rd sc) (rd sd) (rd sa) (rd sb)) (by first | assumption | omega)).trans rp2
       replace rl5 := (setRow_other w69 (gr) (gs) (r4 (rd sc) (rd sd) (rd sa) (rd sb)) (by first | assumption | omega)).trans rl5
       replace rl6 := (setRow_other w69 (gr) (gx) (r4 (rd sc) (rd sd) (rd sa) (rd sb)) (by first | assumption | omega)).trans rl6
       replace rg7 := setRow_heap w69 (gr) _ (r4 (rd sc) (rd sd) (rd sa) (rd sb)) _ _ rg7
       replace hw := below_setRow hw (show w.heap.size ≤ gr by first | assumption | omega) (r4 (rd sc) (rd sd) (rd sa) (rd sb))
       generalize w69.setRow (gr) (r4 (rd sc) (rd sd) (rd sa) (rd sb)) = w70 at *
       go_roundw
       case rel => exact ⟨k + 1, by omega, by go_num, rp2, rl5, rl6, by rw [hL1]; exact rg7, hw⟩
       case measure => simp [intOf]; omega
   · obtain rfl : k = 255 := by omega
     have hd : decide ((0 : Int) ≤ 254 - ((255 : Nat) : Int)) = false := by decide
     generalize lad S X 255 = L at *
     obtain ⟨la, lb, lc, ld⟩ := L
     simp only at ci hia hib cm rg7
     go_wp2_with (first | fail)
     have Hrp2 := keepr rp2
     have Hrl5 := keepr rl5
     have Hrl6 := keepr rl6
     have Hrg7 := keepr rg7
     refine wp_region_tail (C := fun w' => ∃ p : Regrown, w' = grow (redrawn wr p.d) p.os) 7 _ rfl rfl rfl (by kernel_rfl) (by kernel_rfl) (by kernel_rfl) (by kernel_rfl) ⟨⟨wr.drawn + 1, #[]⟩, by rw [grow_empty]; rfl⟩ ?_
     dsimp only [List.set, idle]
     go_big_quiet_step (fail)
     refine wpQuiet_load_part rfl 101 _ rfl (gr) 0 rfl 105 (r4 (rd la) (rd lb) (rd lc) (rd ld)) (0, 0) (rd la) _ Hrg7.out p_0 Tryz.underlying101 rfl (rd_info la) ?_
     simp only [Act.put, List.setIfInBounds_toArray, List.set_cons_succ, List.set_cons_zero]
     go_big_quiet_step (fail)
     refine wpQuiet_load_part rfl 101 _ rfl (gr) 16 rfl 105 (r4 (rd la) (rd lb) (rd lc) (rd ld)) (0, 0) (rd lb) _ Hrg7.out (p16_1 (rd_size la)) Tryz.underlying101 rfl (rd_info lb) ?_
     simp only [Act.put, List.setIfInBounds_toArray, List.set_cons_succ, List.set_cons_zero]
     go_big_quiet_step (exact ci.re)
     go_big_quiet_step (exact cm.re)
     go_big_quiet_step (exact cB.re)
     refine wpQuiet_idle rfl rfl rfl ?_
     rintro _ ⟨p, rfl⟩
     have hb := below_regrown wr p.d p.os
     generalize grow (redrawn wr p.d) p.os = w74 at *
     replace rp2 := keep hb rp2
     replace rl5 := keep hb rl5
     replace rl6 := keep hb rl6
     replace rg7 := keep hb rg7
     replace hw := Below.after hw hb
     clear hb
     clear Hrp2 Hrl5 Hrl6 Hrg7
     go_wp2_with (first | (refine wpList_store_row rfl 23 _ _ rfl (w.heap.size + 1 + 1) (kb Y) rfl rfl 23 _ rp2 hY.info (hz.size.trans hY.size.symm) hY.one ?_) | fail)
     exact bodyPost_ret (v := .agg (kb Y)) (results_cell_row Tryz.results36 _ _ (w.heap.size + 1 + 1) _ (kb Y) _ _ rfl (setRow_heap _ _ _ _ _ _ rp2) Tryz.underlying23 rfl hY.info) rfl ⟨rfl, below_setRow hw (by omega) _⟩
end Go.Proofs.YtgbkbcgjagcgbaaGreatDoor.Lo
