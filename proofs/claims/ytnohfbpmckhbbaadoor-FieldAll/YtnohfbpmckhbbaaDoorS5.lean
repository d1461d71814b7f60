import Derived.Test.YtnohfbpmckhbbaaDoorProg
import Derived.WalkKit
import Derived.WalkSpells
import Derived.WalkLawsBesides
import Derived.Lib.QuietBelow
import Derived.BigQuiet
import Derived.Test.YtnohfbpmckhbbaaDoorS0
import Derived.Test.YtnohfbpmckhbbaaDoorS4
import Derived.OwnWalk
namespace Go.Proofs.YtnohfbpmckhbbaaDoor
set_option maxRecDepth 100000
open Go.RowKit Go.Sort
attribute [local go_sem] setCell_drewN alloc_drewN


set_option maxRecDepth 100000 in
set_option maxHeartbeats 4000000 in
theorem root_T {r : Array Value} {x : Int} (h : NumOf r x) (h1e : x ^ 7237005577332262213973186563042994240829374041602535252466099000494570602494 * x ^ 7237005577332262213973186563042994240829374041602535252466099000494570602494 % prm = x % prm) : ∃ s, NumOf s (ev (x ^ 7237005577332262213973186563042994240829374041602535252466099000494570602494)) ∧ Gives5 23 #[.agg r] (.tuple #[.agg s, .bool true]) := by
  have h1 : NumOf r (x ^ 1) := by rw [Int.pow_succ, Int.pow_zero, Int.one_mul]; exact h
  obtain ⟨xa, xb, ha, hb, c1⟩ := a_climb h
  obtain ⟨x4, h4, c4⟩ := p_squares ha 2 (by decide) 7237005577332262213973186563042994240829374041602535252466099000494570602492 (by decide)
  obtain ⟨x5, h5, c5⟩ := p_square h1 2 (by decide)
  obtain ⟨x6, h6, c6⟩ := p_mul h4 h5 7237005577332262213973186563042994240829374041602535252466099000494570602494 (by decide)
  obtain ⟨x10, h10, c10⟩ := a_square h6
  have c11 := a_equal_t h10 h h1e
  obtain ⟨xn, hn, c13⟩ := a_neg h6
  have c14 := a_odd_ev h6
  obtain ⟨xs, xt, yt, hs, ht, c15⟩ := a_swap_ev h6 hn
  refine ⟨xs, hs, fun w hF => ?_⟩
  clear h1e
  go_enter Tryd.func23, Tryd.ntmps23
  go_wp2_with (first | (refine wpList_load_want rfl 26 _ rfl (w.heap.size) rfl 26 r (0, 0) _ (hp2_0 w _ _) Tryd.underlying26 rfl h.info ?_) | (refine wpList_load_want rfl 26 _ rfl (w.heap.size + 1) rfl 26 #[.int .u64 0, .int .u64 0, .int .u64 0, .int .u64 0, .int .u64 0] (0, 0) _ (hp2_1 w _ _) Tryd.underlying26 rfl num_zero.info ?_) | fail)
  have rp0 : ((w.alloc (.cells r 26)).alloc (.cells #[.int .u64 0, .int .u64 0, .int .u64 0, .int .u64 0, .int .u64 0] 26)).heap[w.heap.size]? = some (.cells r 26 (0, 0)) := hp2_0 w _ _
  have rp1 : ((w.alloc (.cells r 26)).alloc (.cells #[.int .u64 0, .int .u64 0, .int .u64 0, .int .u64 0, .int .u64 0] 26)).heap[w.heap.size + 1]? = some (.cells #[.int .u64 0, .int .u64 0, .int .u64 0, .int .u64 0, .int .u64 0] 26 (0, 0)) := hp2_1 w _ _
  have hw : Below w.heap.size w ((w.alloc (.cells r 26)).alloc (.cells #[.int .u64 0, .int .u64 0, .int .u64 0, .int .u64 0, .int .u64 0] 26)) := (((Below.refl _ _).alloc (Nat.le_refl _) _).alloc (by simp) _)
  have hz0 := hF.sz
  have f4 : Both ((w.alloc (.cells r 26)).alloc (.cells #[.int .u64 0, .int .u64 0, .int .u64 0, .int .u64 0, .int .u64 0] 26)) := ((hF.alloc _).alloc _)
  generalize ((w.alloc (.cells r 26)).alloc (.cells #[.int .u64 0, .int .u64 0, .int .u64 0, .int .u64 0, .int .u64 0] 26)) = w0 at *
  refine (c1.at _).mono ?_
  rintro e w2 ⟨rfl, hb⟩
  replace rp0 := keep hb rp0
  replace rp1 := keep hb rp1
  replace hw := Below.after hw hb
  replace f4 := f4.below hb
  clear hb
  go_wp2_with (first | (refine wpList_store_row rfl 26 _ _ rfl (w2.heap.size) xa rfl rfl 26 #[.int .u64 0, .int .u64 0, .int .u64 0, .int .u64 0, .int .u64 0] (hp2_0 w2 _ _) ha.info (ha.fits rfl) ha.one ?_; rw [setRow_alloc_old _ _ _ _ (by simp), setRow_alloc_new _ _ _ _ _ _ (by simp)]) | (refine wpList_store_row rfl 26 _ _ rfl (w2.heap.size + 1) xb rfl rfl 26 #[.int .u64 0, .int .u64 0, .int .u64 0, .int .u64 0, .int .u64 0] (hp2_1 w2 _ _) hb.info (hb.fits rfl) hb.one ?_; rw [setRow_alloc_new _ _ _ _ _ _ (by simp)]) | fail | fail)
  have rl4 : ((w2.alloc (.cells xa 26)).alloc (.cells xb 26)).heap[w2.heap.size]? = some (.cells xa 26 (0, 0)) := hp2_0 w2 _ _
  have rl5 : ((w2.alloc (.cells xa 26)).alloc (.cells xb 26)).heap[w2.heap.size + 1]? = some (.cells xb 26 (0, 0)) := hp2_1 w2 _ _
  have hb : Below w2.heap.size w2 ((w2.alloc (.cells xa 26)).alloc (.cells xb 26)) := (((Below.refl _ _).alloc (Nat.le_refl _) _).alloc (by simp) _)
  generalize ((w2.alloc (.cells xa 26)).alloc (.cells xb 26)) = wa at *
  have yg4_0 := lt_of_row rp0
  have yg4_1 := lt_of_row rp1
  have yg4 := hw.size
  have zg4 := f4.sz
  replace rp0 := keep hb rp0
  replace rp1 := keep hb rp1
  replace hw := Below.after hw hb
  replace f4 := f4.below hb
  clear hb
  generalize w2.heap.size = g4 at *
  clear w2
  refine wp_region_alloc_ex 5 6 [6] (fun _ => .cells #[.int .u64 0, .int .u64 0, .int .u64 0, .int .u64 0, .int .u64 0] 26 (0, 0)) (by kernel_rfl) (by decide) (by decide) (by kernel_rfl) (by kernel_rfl) (by kernel_rfl) (by kernel_rfl) (by kernel_rfl) (by kernel_rfl) (by kernel_rfl) (by kernel_rfl) (by decide) (by decide) ?_ ?_
  · intro s l u
    rcases (by omega : s = 5) with rfl <;> exact ⟨_, _, rfl, rfl, rfl, rfl, fun a w => by kernel_rfl⟩
  apply Exists.intro
  constructor
  · intro v3 hb
    have Hrp0 := keepr (keep hb rp0)
    have Hrp1 := keepr (keep hb rp1)
    have Hrl4 := keepr (keep hb rl4)
    have Hrl5 := keepr (keep hb rl5)
    have F4 := f4.below hb
    clear hb; dsimp only [List.take]
    refine wpQuiet_load_row rfl 26 _ rfl (g4) rfl 26 xa (0, 0) _ Hrl4.out Tryd.underlying26 rfl ha.info ?_
    simp only [Act.put, List.setIfInBounds_toArray, List.set_cons_succ, List.set_cons_zero]
    go_big_quiet_step (exact c4.re)
    refine wpQuiet_load_row rfl 26 _ rfl (w.heap.size) rfl 26 r (0, 0) _ Hrp0.out Tryd.underlying26 rfl h.info ?_
    simp only [Act.put, List.setIfInBounds_toArray, List.set_cons_succ, List.set_cons_zero]
    go_big_quiet_step (exact c5.re)
    go_big_quiet_step (exact c6.re)
    refine wpQuiet_nil ?_
    rfl
  intro w7 g hb hg hd
  obtain ⟨lg6, rg6⟩ := hg 6 (by simp)
  replace rg6 : w7.heap[g 6]? = some (.cells #[.int .u64 0, .int .u64 0, .int .u64 0, .int .u64 0, .int .u64 0] 26 (0, 0)) := rg6
  simp only [List.drop, puts, ptrs, List.map, List.foldl, Act.put, List.setIfInBounds_toArray, List.set_cons_succ, List.set_cons_zero]
  clear hg hd
  generalize g 6 = g6 at *
  have lrp0 := lt_of_row rp0
  have lrp1 := lt_of_row rp1
  have lrl4 := lt_of_row rl4
  have lrl5 := lt_of_row rl5
  have hs := hw.size
  have hz := f4.sz
  replace rp0 := keep hb rp0
  replace rp1 := keep hb rp1
  replace rl4 := keep hb rl4
  replace rl5 := keep hb rl5
  replace hw := Below.after hw hb
  replace f4 := f4.below hb
  clear hb
  refine wpList_store_row rfl 26 _ _ rfl g6 x6 rfl rfl 26 _ rg6 h6.info (h6.fits rfl) h6.one ?_
  simp only [Act.put]
  replace rp0 := (setRow_other w7 g6 (w.heap.size) x6 (by omega)).trans rp0
  replace rp1 := (setRow_other w7 g6 (w.heap.size + 1) x6 (by omega)).trans rp1
  replace rl4 := (setRow_other w7 g6 (g4) x6 (by omega)).trans rl4
  replace rl5 := (setRow_other w7 g6 (g4 + 1) x6 (by omega)).trans rl5
  replace rg6 := setRow_heap w7 g6 _ x6 _ _ rg6
  replace hw := below_setRow hw (show w.heap.size ≤ g6 by omega) x6
  replace f4 := f4.setRow (show 1 < g6 by omega) x6
  generalize w7.setRow g6 x6 = w8 at *
  have yg6_0 : w.heap.size < g6 := by omega
  have yg6_1 : w.heap.size + 1 < g6 := by omega
  have yg6_2 : g4 < g6 := by omega
  have yg6_3 : g4 + 1 < g6 := by omega
  have yg6 : w.heap.size ≤ g6 := by omega
  have zg6 : 1 < g6 := by omega
  clear hs hz lrp0 lrp1 lrl4 lrl5 lg6
  go_wp2
  have Hrp0 := keepr rp0
  have Hrp1 := keepr rp1
  have Hrl4 := keepr rl4
  have Hrl5 := keepr rl5
  have Hrg6 := keepr rg6
  refine wp_region_quiet_below (by kernel_rfl) (by kernel_rfl) ?_
  refine wpQuiet_load_row rfl 26 _ rfl (g6) rfl 26 x6 (0, 0) _ Hrg6.out Tryd.underlying26 rfl h6.info ?_
  simp only [Act.put, List.setIfInBounds_toArray, List.set_cons_succ, List.set_cons_zero]
  go_big_quiet_step (exact c10.re)
  refine wpQuiet_load_row rfl 26 _ rfl (w.heap.size) rfl 26 r (0, 0) _ Hrp0.out Tryd.underlying26 rfl h.info ?_
  simp only [Act.put, List.setIfInBounds_toArray, List.set_cons_succ, List.set_cons_zero]
  go_big_quiet_step (exact c11.re)
  go_big_quiet_step (fail)
  refine wpQuiet_nil ?_
  rintro _ ⟨p, rfl⟩
  have hb := below_regrown w8 p.d p.os
  generalize grow (redrawn w8 p.d) p.os = w9 at *
  replace rp0 := keep hb rp0
  replace rp1 := keep hb rp1
  replace rl4 := keep hb rl4
  replace rl5 := keep hb rl5
  replace rg6 := keep hb rg6
  replace hw := Below.after hw hb
  replace f4 := f4.below hb
  clear hb
  clear Hrp0 Hrp1 Hrl4 Hrl5 Hrg6
  go_wp2
  have Hrp0 := keepr rp0
  have Hrp1 := keepr rp1
  have Hrl4 := keepr rl4
  have Hrl5 := keepr rl5
  have Hrg6 := keepr rg6
  refine wp_region_quiet_below (by kernel_rfl) (by kernel_rfl) ?_
  refine wpQuiet_load_row rfl 26 _ rfl (g6) rfl 26 x6 (0, 0) _ Hrg6.out Tryd.underlying26 rfl h6.info ?_
  simp only [Act.put, List.setIfInBounds_toArray, List.set_cons_succ, List.set_cons_zero]
  go_big_quiet_step (exact c10.re)
  refine wpQuiet_load_row rfl 26 _ rfl (w.heap.size) rfl 26 r (0, 0) _ Hrp0.out Tryd.underlying26 rfl h.info ?_
  simp only [Act.put, List.setIfInBounds_toArray, List.set_cons_succ, List.set_cons_zero]
  go_big_quiet_step (exact c11.re)
  go_big_quiet_step (fail)
  refine wpQuiet_nil ?_
  rintro _ ⟨p, rfl⟩
  have hb := below_regrown w9 p.d p.os
  generalize grow (redrawn w9 p.d) p.os = w12 at *
  replace rp0 := keep hb rp0
  replace rp1 := keep hb rp1
  replace rl4 := keep hb rl4
  replace rl5 := keep hb rl5
  replace rg6 := keep hb rg6
  replace hw := Below.after hw hb
  replace f4 := f4.below hb
  clear hb
  clear Hrp0 Hrp1 Hrl4 Hrl5 Hrg6
  go_wp2
  have Hrp0 := keepr rp0
  have Hrp1 := keepr rp1
  have Hrl4 := keepr rl4
  have Hrl5 := keepr rl5
  have Hrg6 := keepr rg6
  refine wp_region_tail2 (C := fun w' => ∃ p : Regrown, w' = grow (redrawn w12 p.d) p.os) 9 8 _ _ rfl rfl (.tmp 31) 1 rfl 39 rfl rfl 26 6 38 rfl (by decide) (by decide) rfl rfl (by kernel_rfl) (by kernel_rfl) (by kernel_rfl) (by kernel_rfl) ⟨⟨w12.drawn + 1, #[]⟩, by rw [grow_empty]; rfl⟩ ?_
  dsimp only [List.set, idle]
  refine wpQuiet_load_row rfl 26 _ rfl (g6) rfl 26 x6 (0, 0) _ Hrg6.out Tryd.underlying26 rfl h6.info ?_
  simp only [Act.put, List.setIfInBounds_toArray, List.set_cons_succ, List.set_cons_zero]
  refine wpQuiet_load_row rfl 26 _ rfl (g6) rfl 26 x6 (0, 0) _ Hrg6.out Tryd.underlying26 rfl h6.info ?_
  simp only [Act.put, List.setIfInBounds_toArray, List.set_cons_succ, List.set_cons_zero]
  go_big_quiet_step (exact c13.re f4.1)
  refine wpQuiet_load_row rfl 26 _ rfl (g6) rfl 26 x6 (0, 0) _ Hrg6.out Tryd.underlying26 rfl h6.info ?_
  simp only [Act.put, List.setIfInBounds_toArray, List.set_cons_succ, List.set_cons_zero]
  go_big_quiet_step (exact c14.re)
  go_big_quiet_step (exact c15.re)
  go_big_quiet_step (fail)
  go_big_quiet_step (fail)
  go_big_quiet_step (fail)
  refine wpQuiet_idle rfl rfl rfl ?_
  rintro _ ⟨p, rfl⟩
  have hb := below_regrown w12 p.d p.os
  generalize grow (redrawn w12 p.d) p.os = w16 at *
  replace rp0 := keep hb rp0
  replace rp1 := keep hb rp1
  replace rl4 := keep hb rl4
  replace rl5 := keep hb rl5
  replace rg6 := keep hb rg6
  replace hw := Below.after hw hb
  replace f4 := f4.below hb
  clear hb
  clear Hrp0 Hrp1 Hrl4 Hrl5 Hrg6
  refine ⟨_, run_store_op 26 _ _ rfl (g6) xs rfl rfl 26 _ rg6 hs.info (h6.size.trans hs.size.symm) hs.one, ?_⟩
  simp only [Exit.then]
  replace rp0 := (setRow_other w16 (g6) (w.heap.size) xs (by first | assumption | omega)).trans rp0
  replace rp1 := (setRow_other w16 (g6) (w.heap.size + 1) xs (by first | assumption | omega)).trans rp1
  replace rl4 := (setRow_other w16 (g6) (g4) xs (by first | assumption | omega)).trans rl4
  replace rl5 := (setRow_other w16 (g6) (g4 + 1) xs (by first | assumption | omega)).trans rl5
  replace rg6 := setRow_heap w16 (g6) _ xs _ _ rg6
  replace hw := below_setRow hw (show w.heap.size ≤ g6 by first | assumption | omega) xs
  replace f4 := f4.setRow (show 1 < g6 by first | assumption | omega) xs
  generalize w16.setRow (g6) xs = w17 at *
  go_wp2_with (first | (refine wpList_load_want rfl 26 _ rfl (w.heap.size) rfl 26 r (0, 0) _ rp0 Tryd.underlying26 rfl h.info ?_) | (refine wpList_load_want rfl 26 _ rfl (w.heap.size + 1) rfl 26 #[.int .u64 0, .int .u64 0, .int .u64 0, .int .u64 0, .int .u64 0] (0, 0) _ rp1 Tryd.underlying26 rfl num_zero.info ?_) | (refine wpList_load_want rfl 26 _ rfl (g4) rfl 26 xa (0, 0) _ rl4 Tryd.underlying26 rfl ha.info ?_) | (refine wpList_load_want rfl 26 _ rfl (g4 + 1) rfl 26 xb (0, 0) _ rl5 Tryd.underlying26 rfl hb.info ?_) | (refine wpList_load_want rfl 26 _ rfl (g6) rfl 26 xs (0, 0) _ rg6 Tryd.underlying26 rfl hs.info ?_) | (refine wpList_store_row rfl 26 _ _ rfl (w.heap.size + 1) xs rfl rfl 26 _ rp1 hs.info (hs.fits rfl) hs.one ?_) | fail)
  exact bodyPost_ret (v := .tuple #[.agg xs, .bool true]) (results_row_slot Tryd.results23 _ _ (w.heap.size + 1) _ xs _ _ (.bool true) rfl (setRow_heap _ _ _ _ _ _ rp1) rfl Tryd.underlying26 rfl hs.info) rfl ⟨rfl, below_setRow hw (by omega) _⟩

end Go.Proofs.YtnohfbpmckhbbaaDoor


namespace Go.Proofs.YtnohfbpmckhbbaaDoor
set_option maxRecDepth 100000
open Go.RowKit Go.Sort
attribute [local go_sem] setCell_drewN alloc_drewN


set_option maxRecDepth 100000 in
set_option maxHeartbeats 4000000 in
theorem root_FT {r : Array Value} {x : Int} (h : NumOf r x) (h1e : x ^ 7237005577332262213973186563042994240829374041602535252466099000494570602494 * x ^ 7237005577332262213973186563042994240829374041602535252466099000494570602494 % prm ≠ x % prm) (h2e : x ^ 7237005577332262213973186563042994240829374041602535252466099000494570602494 * uu * (x ^ 7237005577332262213973186563042994240829374041602535252466099000494570602494 * uu) % prm = x % prm) : ∃ s, NumOf s (ev (x ^ 7237005577332262213973186563042994240829374041602535252466099000494570602494 * uu)) ∧ Gives5 23 #[.agg r] (.tuple #[.agg s, .bool true]) := by
  have h1 : NumOf r (x ^ 1) := by rw [Int.pow_succ, Int.pow_zero, Int.one_mul]; exact h
  obtain ⟨xa, xb, ha, hb, c1⟩ := a_climb h
  obtain ⟨x4, h4, c4⟩ := p_squares ha 2 (by decide) 7237005577332262213973186563042994240829374041602535252466099000494570602492 (by decide)
  obtain ⟨x5, h5, c5⟩ := p_square h1 2 (by decide)
  obtain ⟨x6, h6, c6⟩ := p_mul h4 h5 7237005577332262213973186563042994240829374041602535252466099000494570602494 (by decide)
  obtain ⟨x10, h10, c10⟩ := a_square h6
  have c11 := a_equal_f h10 h h1e
  obtain ⟨x12, h12, c12⟩ := a_mul h6 unit_num
  obtain ⟨x16, h16, c16⟩ := a_square h12
  have c17 := a_equal_t h16 h h2e
  obtain ⟨xn, hn, c18⟩ := a_neg h12
  have c19 := a_odd_ev h12
  obtain ⟨xs, xt, yt, hs, ht, c20⟩ := a_swap_ev h12 hn
  refine ⟨xs, hs, fun w hF => ?_⟩
  clear h1e h2e
  go_enter Tryd.func23, Tryd.ntmps23
  go_wp2_with (first | (refine wpList_load_want rfl 26 _ rfl (w.heap.size) rfl 26 r (0, 0) _ (hp2_0 w _ _) Tryd.underlying26 rfl h.info ?_) | (refine wpList_load_want rfl 26 _ rfl (w.heap.size + 1) rfl 26 #[.int .u64 0, .int .u64 0, .int .u64 0, .int .u64 0, .int .u64 0] (0, 0) _ (hp2_1 w _ _) Tryd.underlying26 rfl num_zero.info ?_) | fail)
  have rp0 : ((w.alloc (.cells r 26)).alloc (.cells #[.int .u64 0, .int .u64 0, .int .u64 0, .int .u64 0, .int .u64 0] 26)).heap[w.heap.size]? = some (.cells r 26 (0, 0)) := hp2_0 w _ _
  have rp1 : ((w.alloc (.cells r 26)).alloc (.cells #[.int .u64 0, .int .u64 0, .int .u64 0, .int .u64 0, .int .u64 0] 26)).heap[w.heap.size + 1]? = some (.cells #[.int .u64 0, .int .u64 0, .int .u64 0, .int .u64 0, .int .u64 0] 26 (0, 0)) := hp2_1 w _ _
  have hw : Below w.heap.size w ((w.alloc (.cells r 26)).alloc (.cells #[.int .u64 0, .int .u64 0, .int .u64 0, .int .u64 0, .int .u64 0] 26)) := (((Below.refl _ _).alloc (Nat.le_refl _) _).alloc (by simp) _)
  have hz0 := hF.sz
  have f4 : Both ((w.alloc (.cells r 26)).alloc (.cells #[.int .u64 0, .int .u64 0, .int .u64 0, .int .u64 0, .int .u64 0] 26)) := ((hF.alloc _).alloc _)
  generalize ((w.alloc (.cells r 26)).alloc (.cells #[.int .u64 0, .int .u64 0, .int .u64 0, .int .u64 0, .int .u64 0] 26)) = w0 at *
  refine (c1.at _).mono ?_
  rintro e w2 ⟨rfl, hb⟩
  replace rp0 := keep hb rp0
  replace rp1 := keep hb rp1
  replace hw := Below.after hw hb
  replace f4 := f4.below hb
  clear hb
  go_wp2_with (first | (refine wpList_store_row rfl 26 _ _ rfl (w2.heap.size) xa rfl rfl 26 #[.int .u64 0, .int .u64 0, .int .u64 0, .int .u64 0, .int .u64 0] (hp2_0 w2 _ _) ha.info (ha.fits rfl) ha.one ?_; rw [setRow_alloc_old _ _ _ _ (by simp), setRow_alloc_new _ _ _ _ _ _ (by simp)]) | (refine wpList_store_row rfl 26 _ _ rfl (w2.heap.size + 1) xb rfl rfl 26 #[.int .u64 0, .int .u64 0, .int .u64 0, .int .u64 0, .int .u64 0] (hp2_1 w2 _ _) hb.info (hb.fits rfl) hb.one ?_; rw [setRow_alloc_new _ _ _ _ _ _ (by simp)]) | fail | fail)
  have rl4 : ((w2.alloc (.cells xa 26)).alloc (.cells xb 26)).heap[w2.heap.size]? = some (.cells xa 26 (0, 0)) := hp2_0 w2 _ _
  have rl5 : ((w2.alloc (.cells xa 26)).alloc (.cells xb 26)).heap[w2.heap.size + 1]? = some (.cells xb 26 (0, 0)) := hp2_1 w2 _ _
  have hb : Below w2.heap.size w2 ((w2.alloc (.cells xa 26)).alloc (.cells xb 26)) := (((Below.refl _ _).alloc (Nat.le_refl _) _).alloc (by simp) _)
  generalize ((w2.alloc (.cells xa 26)).alloc (.cells xb 26)) = wa at *
  have yg4_0 := lt_of_row rp0
  have yg4_1 := lt_of_row rp1
  have yg4 := hw.size
  have zg4 := f4.sz
  replace rp0 := keep hb rp0
  replace rp1 := keep hb rp1
  replace hw := Below.after hw hb
  replace f4 := f4.below hb
  clear hb
  generalize w2.heap.size = g4 at *
  clear w2
  refine wp_region_alloc_ex 5 6 [6] (fun _ => .cells #[.int .u64 0, .int .u64 0, .int .u64 0, .int .u64 0, .int .u64 0] 26 (0, 0)) (by kernel_rfl) (by decide) (by decide) (by kernel_rfl) (by kernel_rfl) (by kernel_rfl) (by kernel_rfl) (by kernel_rfl) (by kernel_rfl) (by kernel_rfl) (by kernel_rfl) (by decide) (by decide) ?_ ?_
  · intro s l u
    rcases (by omega : s = 5) with rfl <;> exact ⟨_, _, rfl, rfl, rfl, rfl, fun a w => by kernel_rfl⟩
  apply Exists.intro
  constructor
  · intro v3 hb
    have Hrp0 := keepr (keep hb rp0)
    have Hrp1 := keepr (keep hb rp1)
    have Hrl4 := keepr (keep hb rl4)
    have Hrl5 := keepr (keep hb rl5)
    have F4 := f4.below hb
    clear hb; dsimp only [List.take]
    refine wpQuiet_load_row rfl 26 _ rfl (g4) rfl 26 xa (0, 0) _ Hrl4.out Tryd.underlying26 rfl ha.info ?_
    simp only [Act.put, List.setIfInBounds_toArray, List.set_cons_succ, List.set_cons_zero]
    go_big_quiet_step (exact c4.re)
    refine wpQuiet_load_row rfl 26 _ rfl (w.heap.size) rfl 26 r (0, 0) _ Hrp0.out Tryd.underlying26 rfl h.info ?_
    simp only [Act.put, List.setIfInBounds_toArray, List.set_cons_succ, List.set_cons_zero]
    go_big_quiet_step (exact c5.re)
    go_big_quiet_step (exact c6.re)
    refine wpQuiet_nil ?_
    rfl
  intro w7 g hb hg hd
  obtain ⟨lg6, rg6⟩ := hg 6 (by simp)
  replace rg6 : w7.heap[g 6]? = some (.cells #[.int .u64 0, .int .u64 0, .int .u64 0, .int .u64 0, .int .u64 0] 26 (0, 0)) := rg6
  simp only [List.drop, puts, ptrs, List.map, List.foldl, Act.put, List.setIfInBounds_toArray, List.set_cons_succ, List.set_cons_zero]
  clear hg hd
  generalize g 6 = g6 at *
  have lrp0 := lt_of_row rp0
  have lrp1 := lt_of_row rp1
  have lrl4 := lt_of_row rl4
  have lrl5 := lt_of_row rl5
  have hs := hw.size
  have hz := f4.sz
  replace rp0 := keep hb rp0
  replace rp1 := keep hb rp1
  replace rl4 := keep hb rl4
  replace rl5 := keep hb rl5
  replace hw := Below.after hw hb
  replace f4 := f4.below hb
  clear hb
  refine wpList_store_row rfl 26 _ _ rfl g6 x6 rfl rfl 26 _ rg6 h6.info (h6.fits rfl) h6.one ?_
  simp only [Act.put]
  replace rp0 := (setRow_other w7 g6 (w.heap.size) x6 (by omega)).trans rp0
  replace rp1 := (setRow_other w7 g6 (w.heap.size + 1) x6 (by omega)).trans rp1
  replace rl4 := (setRow_other w7 g6 (g4) x6 (by omega)).trans rl4
  replace rl5 := (setRow_other w7 g6 (g4 + 1) x6 (by omega)).trans rl5
  replace rg6 := setRow_heap w7 g6 _ x6 _ _ rg6
  replace hw := below_setRow hw (show w.heap.size ≤ g6 by omega) x6
  replace f4 := f4.setRow (show 1 < g6 by omega) x6
  generalize w7.setRow g6 x6 = w8 at *
  have yg6_0 : w.heap.size < g6 := by omega
  have yg6_1 : w.heap.size + 1 < g6 := by omega
  have yg6_2 : g4 < g6 := by omega
  have yg6_3 : g4 + 1 < g6 := by omega
  have yg6 : w.heap.size ≤ g6 := by omega
  have zg6 : 1 < g6 := by omega
  clear hs hz lrp0 lrp1 lrl4 lrl5 lg6
  go_wp2
  have Hrp0 := keepr rp0
  have Hrp1 := keepr rp1
  have Hrl4 := keepr rl4
  have Hrl5 := keepr rl5
  have Hrg6 := keepr rg6
  refine wp_region_quiet_below (by kernel_rfl) (by kernel_rfl) ?_
  refine wpQuiet_load_row rfl 26 _ rfl (g6) rfl 26 x6 (0, 0) _ Hrg6.out Tryd.underlying26 rfl h6.info ?_
  simp only [Act.put, List.setIfInBounds_toArray, List.set_cons_succ, List.set_cons_zero]
  go_big_quiet_step (exact c10.re)
  refine wpQuiet_load_row rfl 26 _ rfl (w.heap.size) rfl 26 r (0, 0) _ Hrp0.out Tryd.underlying26 rfl h.info ?_
  simp only [Act.put, List.setIfInBounds_toArray, List.set_cons_succ, List.set_cons_zero]
  go_big_quiet_step (exact c11.re)
  go_big_quiet_step (fail)
  refine wpQuiet_nil ?_
  rintro _ ⟨p, rfl⟩
  have hb := below_regrown w8 p.d p.os
  generalize grow (redrawn w8 p.d) p.os = w9 at *
  replace rp0 := keep hb rp0
  replace rp1 := keep hb rp1
  replace rl4 := keep hb rl4
  replace rl5 := keep hb rl5
  replace rg6 := keep hb rg6
  replace hw := Below.after hw hb
  replace f4 := f4.below hb
  clear hb
  clear Hrp0 Hrp1 Hrl4 Hrl5 Hrg6
  obtain ⟨tu, fu, hu⟩ := f4.2
  go_wp2_with (first | (refine wpList_load_want rfl 26 _ rfl (w.heap.size) rfl 26 r (0, 0) _ rp0 Tryd.underlying26 rfl h.info ?_) | (refine wpList_load_want rfl 26 _ rfl (w.heap.size + 1) rfl 26 #[.int .u64 0, .int .u64 0, .int .u64 0, .int .u64 0, .int .u64 0] (0, 0) _ rp1 Tryd.underlying26 rfl num_zero.info ?_) | (refine wpList_load_want rfl 26 _ rfl (g4) rfl 26 xa (0, 0) _ rl4 Tryd.underlying26 rfl ha.info ?_) | (refine wpList_load_want rfl 26 _ rfl (g4 + 1) rfl 26 xb (0, 0) _ rl5 Tryd.underlying26 rfl hb.info ?_) | (refine wpList_load_want rfl 26 _ rfl (g6) rfl 26 x6 (0, 0) _ rg6 Tryd.underlying26 rfl h6.info ?_) | (refine wpList_load_want rfl 26 _ rfl 1 rfl tu ucells fu _ hu Tryd.underlying26 rfl unit_num.info ?_) | fail)
  clear hu
  refine (c12.at _).mono ?_
  rintro e w13 ⟨rfl, hb⟩
  replace rp0 := keep hb rp0
  replace rp1 := keep hb rp1
  replace rl4 := keep hb rl4
  replace rl5 := keep hb rl5
  replace rg6 := keep hb rg6
  replace hw := Below.after hw hb
  replace f4 := f4.below hb
  clear hb
  go_wp2_with (first | (refine wpList_store_row rfl 26 _ _ rfl (g6) x12 rfl rfl 26 _ rg6 h12.info (h6.size.trans h12.size.symm) h12.one ?_) | fail)
  replace rp0 := (setRow_other w13 (g6) (w.heap.size) x12 (by first | assumption | omega)).trans rp0
  replace rp1 := (setRow_other w13 (g6) (w.heap.size + 1) x12 (by first | assumption | omega)).trans rp1
  replace rl4 := (setRow_other w13 (g6) (g4) x12 (by first | assumption | omega)).trans rl4
  replace rl5 := (setRow_other w13 (g6) (g4 + 1) x12 (by first | assumption | omega)).trans rl5
  replace rg6 := setRow_heap w13 (g6) _ x12 _ _ rg6
  replace hw := below_setRow hw (show w.heap.size ≤ g6 by first | assumption | omega) x12
  replace f4 := f4.setRow (show 1 < g6 by first | assumption | omega) x12
  generalize w13.setRow (g6) x12 = w14 at *
  have Hrp0 := keepr rp0
  have Hrp1 := keepr rp1
  have Hrl4 := keepr rl4
  have Hrl5 := keepr rl5
  have Hrg6 := keepr rg6
  refine wp_region_quiet_below (by kernel_rfl) (by kernel_rfl) ?_
  refine wpQuiet_load_row rfl 26 _ rfl (g6) rfl 26 x12 (0, 0) _ Hrg6.out Tryd.underlying26 rfl h12.info ?_
  simp only [Act.put, List.setIfInBounds_toArray, List.set_cons_succ, List.set_cons_zero]
  go_big_quiet_step (exact c16.re)
  refine wpQuiet_load_row rfl 26 _ rfl (w.heap.size) rfl 26 r (0, 0) _ Hrp0.out Tryd.underlying26 rfl h.info ?_
  simp only [Act.put, List.setIfInBounds_toArray, List.set_cons_succ, List.set_cons_zero]
  go_big_quiet_step (exact c17.re)
  go_big_quiet_step (fail)
  refine wpQuiet_nil ?_
  rintro _ ⟨p, rfl⟩
  have hb := below_regrown w14 p.d p.os
  generalize grow (redrawn w14 p.d) p.os = w15 at *
  replace rp0 := keep hb rp0
  replace rp1 := keep hb rp1
  replace rl4 := keep hb rl4
  replace rl5 := keep hb rl5
  replace rg6 := keep hb rg6
  replace hw := Below.after hw hb
  replace f4 := f4.below hb
  clear hb
  clear Hrp0 Hrp1 Hrl4 Hrl5 Hrg6
  go_wp2
  have Hrp0 := keepr rp0
  have Hrp1 := keepr rp1
  have Hrl4 := keepr rl4
  have Hrl5 := keepr rl5
  have Hrg6 := keepr rg6
  refine wp_region_tail2 (C := fun w' => ∃ p : Regrown, w' = grow (redrawn w15 p.d) p.os) 9 8 _ _ rfl rfl (.tmp 31) 1 rfl 39 rfl rfl 26 6 38 rfl (by decide) (by decide) rfl rfl (by kernel_rfl) (by kernel_rfl) (by kernel_rfl) (by kernel_rfl) ⟨⟨w15.drawn + 1, #[]⟩, by rw [grow_empty]; rfl⟩ ?_
  dsimp only [List.set, idle]
  refine wpQuiet_load_row rfl 26 _ rfl (g6) rfl 26 x12 (0, 0) _ Hrg6.out Tryd.underlying26 rfl h12.info ?_
  simp only [Act.put, List.setIfInBounds_toArray, List.set_cons_succ, List.set_cons_zero]
  refine wpQuiet_load_row rfl 26 _ rfl (g6) rfl 26 x12 (0, 0) _ Hrg6.out Tryd.underlying26 rfl h12.info ?_
  simp only [Act.put, List.setIfInBounds_toArray, List.set_cons_succ, List.set_cons_zero]
  go_big_quiet_step (exact c18.re f4.1)
  refine wpQuiet_load_row rfl 26 _ rfl (g6) rfl 26 x12 (0, 0) _ Hrg6.out Tryd.underlying26 rfl h12.info ?_
  simp only [Act.put, List.setIfInBounds_toArray, List.set_cons_succ, List.set_cons_zero]
  go_big_quiet_step (exact c19.re)
  go_big_quiet_step (exact c20.re)
  go_big_quiet_step (fail)
  go_big_quiet_step (fail)
  go_big_quiet_step (fail)
  refine wpQuiet_idle rfl rfl rfl ?_
  rintro _ ⟨p, rfl⟩
  have hb := below_regrown w15 p.d p.os
  generalize grow (redrawn w15 p.d) p.os = w21 at *
  replace rp0 := keep hb rp0
  replace rp1 := keep hb rp1
  replace rl4 := keep hb rl4
  replace rl5 := keep hb rl5
  replace rg6 := keep hb rg6
  replace hw := Below.after hw hb
  replace f4 := f4.below hb
  clear hb
  clear Hrp0 Hrp1 Hrl4 Hrl5 Hrg6
  refine ⟨_, run_store_op 26 _ _ rfl (g6) xs rfl rfl 26 _ rg6 hs.info (h12.size.trans hs.size.symm) hs.one, ?_⟩
  simp only [Exit.then]
  replace rp0 := (setRow_other w21 (g6) (w.heap.size) xs (by first | assumption | omega)).trans rp0
  replace rp1 := (setRow_other w21 (g6) (w.heap.size + 1) xs (by first | assumption | omega)).trans rp1
  replace rl4 := (setRow_other w21 (g6) (g4) xs (by first | assumption | omega)).trans rl4
  replace rl5 := (setRow_other w21 (g6) (g4 + 1) xs (by first | assumption | omega)).trans rl5
  replace rg6 := setRow_heap w21 (g6) _ xs _ _ rg6
  replace hw := below_setRow hw (show w.heap.size ≤ g6 by first | assumption | omega) xs
  replace f4 := f4.setRow (show 1 < g6 by first | assumption | omega) xs
  generalize w21.setRow (g6) xs = w22 at *
  go_wp2_with (first | (refine wpList_load_want rfl 26 _ rfl (w.heap.size) rfl 26 r (0, 0) _ rp0 Tryd.underlying26 rfl h.info ?_) | (refine wpList_load_want rfl 26 _ rfl (w.heap.size + 1) rfl 26 #[.int .u64 0, .int .u64 0, .int .u64 0, .int .u64 0, .int .u64 0] (0, 0) _ rp1 Tryd.underlying26 rfl num_zero.info ?_) | (refine wpList_load_want rfl 26 _ rfl (g4) rfl 26 xa (0, 0) _ rl4 Tryd.underlying26 rfl ha.info ?_) | (refine wpList_load_want rfl 26 _ rfl (g4 + 1) rfl 26 xb (0, 0) _ rl5 Tryd.underlying26 rfl hb.info ?_) | (refine wpList_load_want rfl 26 _ rfl (g6) rfl 26 xs (0, 0) _ rg6 Tryd.underlying26 rfl hs.info ?_) | (refine wpList_store_row rfl 26 _ _ rfl (w.heap.size + 1) xs rfl rfl 26 _ rp1 hs.info (hs.fits rfl) hs.one ?_) | fail)
  exact bodyPost_ret (v := .tuple #[.agg xs, .bool true]) (results_row_slot Tryd.results23 _ _ (w.heap.size + 1) _ xs _ _ (.bool true) rfl (setRow_heap _ _ _ _ _ _ rp1) rfl Tryd.underlying26 rfl hs.info) rfl ⟨rfl, below_setRow hw (by omega) _⟩

end Go.Proofs.YtnohfbpmckhbbaaDoor


namespace Go.Proofs.YtnohfbpmckhbbaaDoor
set_option maxRecDepth 100000
open Go.RowKit Go.Sort
attribute [local go_sem] setCell_drewN alloc_drewN


set_option maxRecDepth 100000 in
set_option maxHeartbeats 4000000 in
theorem root_FF {r : Array Value} {x : Int} (h : NumOf r x) (h1e : x ^ 7237005577332262213973186563042994240829374041602535252466099000494570602494 * x ^ 7237005577332262213973186563042994240829374041602535252466099000494570602494 % prm ≠ x % prm) (h2e : x ^ 7237005577332262213973186563042994240829374041602535252466099000494570602494 * uu * (x ^ 7237005577332262213973186563042994240829374041602535252466099000494570602494 * uu) % prm ≠ x % prm) : ∃ s, NumOf s 0 ∧ Gives5 23 #[.agg r] (.tuple #[.agg s, .bool false]) := by
  have h1 : NumOf r (x ^ 1) := by rw [Int.pow_succ, Int.pow_zero, Int.one_mul]; exact h
  obtain ⟨xa, xb, ha, hb, c1⟩ := a_climb h
  obtain ⟨x4, h4, c4⟩ := p_squares ha 2 (by decide) 7237005577332262213973186563042994240829374041602535252466099000494570602492 (by decide)
  obtain ⟨x5, h5, c5⟩ := p_square h1 2 (by decide)
  obtain ⟨x6, h6, c6⟩ := p_mul h4 h5 7237005577332262213973186563042994240829374041602535252466099000494570602494 (by decide)
  obtain ⟨x10, h10, c10⟩ := a_square h6
  have c11 := a_equal_f h10 h h1e
  obtain ⟨x12, h12, c12⟩ := a_mul h6 unit_num
  obtain ⟨x16, h16, c16⟩ := a_square h12
  have c17 := a_equal_f h16 h h2e
  refine ⟨#[.int .u64 0, .int .u64 0, .int .u64 0, .int .u64 0, .int .u64 0], num_zero, fun w hF => ?_⟩
  clear h1e h2e
  go_enter Tryd.func23, Tryd.ntmps23
  go_wp2_with (first | (refine wpList_load_want rfl 26 _ rfl (w.heap.size) rfl 26 r (0, 0) _ (hp2_0 w _ _) Tryd.underlying26 rfl h.info ?_) | (refine wpList_load_want rfl 26 _ rfl (w.heap.size + 1) rfl 26 #[.int .u64 0, .int .u64 0, .int .u64 0, .int .u64 0, .int .u64 0] (0, 0) _ (hp2_1 w _ _) Tryd.underlying26 rfl num_zero.info ?_) | fail)
  have rp0 : ((w.alloc (.cells r 26)).alloc (.cells #[.int .u64 0, .int .u64 0, .int .u64 0, .int .u64 0, .int .u64 0] 26)).heap[w.heap.size]? = some (.cells r 26 (0, 0)) := hp2_0 w _ _
  have rp1 : ((w.alloc (.cells r 26)).alloc (.cells #[.int .u64 0, .int .u64 0, .int .u64 0, .int .u64 0, .int .u64 0] 26)).heap[w.heap.size + 1]? = some (.cells #[.int .u64 0, .int .u64 0, .int .u64 0, .int .u64 0, .int .u64 0] 26 (0, 0)) := hp2_1 w _ _
  have hw : Below w.heap.size w ((w.alloc (.cells r 26)).alloc (.cells #[.int .u64 0, .int .u64 0, .int .u64 0, .int .u64 0, .int .u64 0] 26)) := (((Below.refl _ _).alloc (Nat.le_refl _) _).alloc (by simp) _)
  have hz0 := hF.sz
  have f4 : Both ((w.alloc (.cells r 26)).alloc (.cells #[.int .u64 0, .int .u64 0, .int .u64 0, .int .u64 0, .int .u64 0] 26)) := ((hF.alloc _).alloc _)
  generalize ((w.alloc (.cells r 26)).alloc (.cells #[.int .u64 0, .int .u64 0, .int .u64 0, .int .u64 0, .int .u64 0] 26)) = w0 at *
  refine (c1.at _).mono ?_
  rintro e w2 ⟨rfl, hb⟩
  replace rp0 := keep hb rp0
  replace rp1 := keep hb rp1
  replace hw := Below.after hw hb
  replace f4 := f4.below hb
  clear hb
  go_wp2_with (first | (refine wpList_store_row rfl 26 _ _ rfl (w2.heap.size) xa rfl rfl 26 #[.int .u64 0, .int .u64 0, .int .u64 0, .int .u64 0, .int .u64 0] (hp2_0 w2 _ _) ha.info (ha.fits rfl) ha.one ?_; rw [setRow_alloc_old _ _ _ _ (by simp), setRow_alloc_new _ _ _ _ _ _ (by simp)]) | (refine wpList_store_row rfl 26 _ _ rfl (w2.heap.size + 1) xb rfl rfl 26 #[.int .u64 0, .int .u64 0, .int .u64 0, .int .u64 0, .int .u64 0] (hp2_1 w2 _ _) hb.info (hb.fits rfl) hb.one ?_; rw [setRow_alloc_new _ _ _ _ _ _ (by simp)]) | fail | fail)
  have rl4 : ((w2.alloc (.cells xa 26)).alloc (.cells xb 26)).heap[w2.heap.size]? = some (.cells xa 26 (0, 0)) := hp2_0 w2 _ _
  have rl5 : ((w2.alloc (.cells xa 26)).alloc (.cells xb 26)).heap[w2.heap.size + 1]? = some (.cells xb 26 (0, 0)) := hp2_1 w2 _ _
  have hb : Below w2.heap.size w2 ((w2.alloc (.cells xa 26)).alloc (.cells xb 26)) := (((Below.refl _ _).alloc (Nat.le_refl _) _).alloc (by simp) _)
  generalize ((w2.alloc (.cells xa 26)).alloc (.cells xb 26)) = wa at *
  have yg4_0 := lt_of_row rp0
  have yg4_1 := lt_of_row rp1
  have yg4 := hw.size
  have zg4 := f4.sz
  replace rp0 := keep hb rp0
  replace rp1 := keep hb rp1
  replace hw := Below.after hw hb
  replace f4 := f4.below hb
  clear hb
  generalize w2.heap.size = g4 at *
  clear w2
  refine wp_region_alloc_ex 5 6 [6] (fun _ => .cells #[.int .u64 0, .int .u64 0, .int .u64 0, .int .u64 0, .int .u64 0] 26 (0, 0)) (by kernel_rfl) (by decide) (by decide) (by kernel_rfl) (by kernel_rfl) (by kernel_rfl) (by kernel_rfl) (by kernel_rfl) (by kernel_rfl) (by kernel_rfl) (by kernel_rfl) (by decide) (by decide) ?_ ?_
  · intro s l u
    rcases (by omega : s = 5) with rfl <;> exact ⟨_, _, rfl, rfl, rfl, rfl, fun a w => by kernel_rfl⟩
  apply Exists.intro
  constructor
  · intro v3 hb
    have Hrp0 := keepr (keep hb rp0)
    have Hrp1 := keepr (keep hb rp1)
    have Hrl4 := keepr (keep hb rl4)
    have Hrl5 := keepr (keep hb rl5)
    have F4 := f4.below hb
    clear hb; dsimp only [List.take]
    refine wpQuiet_load_row rfl 26 _ rfl (g4) rfl 26 xa (0, 0) _ Hrl4.out Tryd.underlying26 rfl ha.info ?_
    simp only [Act.put, List.setIfInBounds_toArray, List.set_cons_succ, List.set_cons_zero]
    go_big_quiet_step (exact c4.re)
    refine wpQuiet_load_row rfl 26 _ rfl (w.heap.size) rfl 26 r (0, 0) _ Hrp0.out Tryd.underlying26 rfl h.info ?_
    simp only [Act.put, List.setIfInBounds_toArray, List.set_cons_succ, List.set_cons_zero]
    go_big_quiet_step (exact c5.re)
    go_big_quiet_step (exact c6.re)
    refine wpQuiet_nil ?_
    rfl
  intro w7 g hb hg hd
  obtain ⟨lg6, rg6⟩ := hg 6 (by simp)
  replace rg6 : w7.heap[g 6]? = some (.cells #[.int .u64 0, .int .u64 0, .int .u64 0, .int .u64 0, .int .u64 0] 26 (0, 0)) := rg6
  simp only [List.drop, puts, ptrs, List.map, List.foldl, Act.put, List.setIfInBounds_toArray, List.set_cons_succ, List.set_cons_zero]
  clear hg hd
  generalize g 6 = g6 at *
  have lrp0 := lt_of_row rp0
  have lrp1 := lt_of_row rp1
  have lrl4 := lt_of_row rl4
  have lrl5 := lt_of_row rl5
  have hs := hw.size
  have hz := f4.sz
  replace rp0 := keep hb rp0
  replace rp1 := keep hb rp1
  replace rl4 := keep hb rl4
  replace rl5 := keep hb rl5
  replace hw := Below.after hw hb
  replace f4 := f4.below hb
  clear hb
  refine wpList_store_row rfl 26 _ _ rfl g6 x6 rfl rfl 26 _ rg6 h6.info (h6.fits rfl) h6.one ?_
  simp only [Act.put]
  replace rp0 := (setRow_other w7 g6 (w.heap.size) x6 (by omega)).trans rp0
  replace rp1 := (setRow_other w7 g6 (w.heap.size + 1) x6 (by omega)).trans rp1
  replace rl4 := (setRow_other w7 g6 (g4) x6 (by omega)).trans rl4
  replace rl5 := (setRow_other w7 g6 (g4 + 1) x6 (by omega)).trans rl5
  replace rg6 := setRow_heap w7 g6 _ x6 _ _ rg6
  replace hw := below_setRow hw (show w.heap.size ≤ g6 by omega) x6
  replace f4 := f4.setRow (show 1 < g6 by omega) x6
  generalize w7.setRow g6 x6 = w8 at *
  have yg6_0 : w.heap.size < g6 := by omega
  have yg6_1 : w.heap.size + 1 < g6 := by omega
  have yg6_2 : g4 < g6 := by omega
  have yg6_3 : g4 + 1 < g6 := by omega
  have yg6 : w.heap.size ≤ g6 := by omega
  have zg6 : 1 < g6 := by omega
  clear hs hz lrp0 lrp1 lrl4 lrl5 lg6
  go_wp2
  have Hrp0 := keepr rp0
  have Hrp1 := keepr rp1
  have Hrl4 := keepr rl4
  have Hrl5 := keepr rl5
  have Hrg6 := keepr rg6
  refine wp_region_quiet_below (by kernel_rfl) (by kernel_rfl) ?_
  refine wpQuiet_load_row rfl 26 _ rfl (g6) rfl 26 x6 (0, 0) _ Hrg6.out Tryd.underlying26 rfl h6.info ?_
  simp only [Act.put, List.setIfInBounds_toArray, List.set_cons_succ, List.set_cons_zero]
  go_big_quiet_step (exact c10.re)
  refine wpQuiet_load_row rfl 26 _ rfl (w.heap.size) rfl 26 r (0, 0) _ Hrp0.out Tryd.underlying26 rfl h.info ?_
  simp only [Act.put, List.setIfInBounds_toArray, List.set_cons_succ, List.set_cons_zero]
  go_big_quiet_step (exact c11.re)
  go_big_quiet_step (fail)
  refine wpQuiet_nil ?_
  rintro _ ⟨p, rfl⟩
  have hb := below_regrown w8 p.d p.os
  generalize grow (redrawn w8 p.d) p.os = w9 at *
  replace rp0 := keep hb rp0
  replace rp1 := keep hb rp1
  replace rl4 := keep hb rl4
  replace rl5 := keep hb rl5
  replace rg6 := keep hb rg6
  replace hw := Below.after hw hb
  replace f4 := f4.below hb
  clear hb
  clear Hrp0 Hrp1 Hrl4 Hrl5 Hrg6
  obtain ⟨tu, fu, hu⟩ := f4.2
  go_wp2_with (first | (refine wpList_load_want rfl 26 _ rfl (w.heap.size) rfl 26 r (0, 0) _ rp0 Tryd.underlying26 rfl h.info ?_) | (refine wpList_load_want rfl 26 _ rfl (w.heap.size + 1) rfl 26 #[.int .u64 0, .int .u64 0, .int .u64 0, .int .u64 0, .int .u64 0] (0, 0) _ rp1 Tryd.underlying26 rfl num_zero.info ?_) | (refine wpList_load_want rfl 26 _ rfl (g4) rfl 26 xa (0, 0) _ rl4 Tryd.underlying26 rfl ha.info ?_) | (refine wpList_load_want rfl 26 _ rfl (g4 + 1) rfl 26 xb (0, 0) _ rl5 Tryd.underlying26 rfl hb.info ?_) | (refine wpList_load_want rfl 26 _ rfl (g6) rfl 26 x6 (0, 0) _ rg6 Tryd.underlying26 rfl h6.info ?_) | (refine wpList_load_want rfl 26 _ rfl 1 rfl tu ucells fu _ hu Tryd.underlying26 rfl unit_num.info ?_) | fail)
  clear hu
  refine (c12.at _).mono ?_
  rintro e w13 ⟨rfl, hb⟩
  replace rp0 := keep hb rp0
  replace rp1 := keep hb rp1
  replace rl4 := keep hb rl4
  replace rl5 := keep hb rl5
  replace rg6 := keep hb rg6
  replace hw := Below.after hw hb
  replace f4 := f4.below hb
  clear hb
  go_wp2_with (first | (refine wpList_store_row rfl 26 _ _ rfl (g6) x12 rfl rfl 26 _ rg6 h12.info (h6.size.trans h12.size.symm) h12.one ?_) | fail)
  replace rp0 := (setRow_other w13 (g6) (w.heap.size) x12 (by first | assumption | omega)).trans rp0
  replace rp1 := (setRow_other w13 (g6) (w.heap.size + 1) x12 (by first | assumption | omega)).trans rp1
  replace rl4 := (setRow_other w13 (g6) (g4) x12 (by first | assumption | omega)).trans rl4
  replace rl5 := (setRow_other w13 (g6) (g4 + 1) x12 (by first | assumption | omega)).trans rl5
  replace rg6 := setRow_heap w13 (g6) _ x12 _ _ rg6
  replace hw := below_setRow hw (show w.heap.size ≤ g6 by first | assumption | omega) x12
  replace f4 := f4.setRow (show 1 < g6 by first | assumption | omega) x12
  generalize w13.setRow (g6) x12 = w14 at *
  have Hrp0 := keepr rp0
  have Hrp1 := keepr rp1
  have Hrl4 := keepr rl4
  have Hrl5 := keepr rl5
  have Hrg6 := keepr rg6
  refine wp_region_quiet_below (by kernel_rfl) (by kernel_rfl) ?_
  refine wpQuiet_load_row rfl 26 _ rfl (g6) rfl 26 x12 (0, 0) _ Hrg6.out Tryd.underlying26 rfl h12.info ?_
  simp only [Act.put, List.setIfInBounds_toArray, List.set_cons_succ, List.set_cons_zero]
  go_big_quiet_step (exact c16.re)
  refine wpQuiet_load_row rfl 26 _ rfl (w.heap.size) rfl 26 r (0, 0) _ Hrp0.out Tryd.underlying26 rfl h.info ?_
  simp only [Act.put, List.setIfInBounds_toArray, List.set_cons_succ, List.set_cons_zero]
  go_big_quiet_step (exact c17.re)
  go_big_quiet_step (fail)
  refine wpQuiet_nil ?_
  rintro _ ⟨p, rfl⟩
  have hb := below_regrown w14 p.d p.os
  generalize grow (redrawn w14 p.d) p.os = w15 at *
  replace rp0 := keep hb rp0
  replace rp1 := keep hb rp1
  replace rl4 := keep hb rl4
  replace rl5 := keep hb rl5
  replace rg6 := keep hb rg6
  replace hw := Below.after hw hb
  replace f4 := f4.below hb
  clear hb
  clear Hrp0 Hrp1 Hrl4 Hrl5 Hrg6
  go_wp2_with (first | (refine wpList_load_want rfl 26 _ rfl (w.heap.size) rfl 26 r (0, 0) _ rp0 Tryd.underlying26 rfl h.info ?_) | (refine wpList_load_want rfl 26 _ rfl (w.heap.size + 1) rfl 26 #[.int .u64 0, .int .u64 0, .int .u64 0, .int .u64 0, .int .u64 0] (0, 0) _ rp1 Tryd.underlying26 rfl num_zero.info ?_) | (refine wpList_load_want rfl 26 _ rfl (g4) rfl 26 xa (0, 0) _ rl4 Tryd.underlying26 rfl ha.info ?_) | (refine wpList_load_want rfl 26 _ rfl (g4 + 1) rfl 26 xb (0, 0) _ rl5 Tryd.underlying26 rfl hb.info ?_) | (refine wpList_load_want rfl 26 _ rfl (g6) rfl 26 x12 (0, 0) _ rg6 Tryd.underlying26 rfl h12.info ?_) | (refine wpList_store_row rfl 26 _ _ rfl (w.heap.size + 1) #[.int .u64 0, .int .u64 0, .int .u64 0, .int .u64 0, .int .u64 0] rfl rfl 26 _ rp1 num_zero.info (num_zero.fits rfl) num_zero.one ?_) | fail)
  exact bodyPost_ret (v := .tuple #[.agg #[.int .u64 0, .int .u64 0, .int .u64 0, .int .u64 0, .int .u64 0], .bool false]) (results_row_slot Tryd.results23 _ _ (w.heap.size + 1) _ #[.int .u64 0, .int .u64 0, .int .u64 0, .int .u64 0, .int .u64 0] _ _ (.bool false) rfl (setRow_heap _ _ _ _ _ _ rp1) rfl Tryd.underlying26 rfl num_zero.info) rfl ⟨rfl, below_setRow hw (by omega) _⟩

end Go.Proofs.YtnohfbpmckhbbaaDoor


namespace Go.Proofs.YtnohfbpmckhbbaaDoor
set_option maxRecDepth 100000
open Go Go.RowKit Go.Sort
/-- Root: a root that is even, and whether there is one. -/
theorem a_root {r : Array Value} {x : Int} (h : NumOf r x) : ∃ s, NumOf s (rval x) ∧ Gives5 23 #[.agg r] (.tuple #[.agg s, .bool (rok x)]) := by
  by_cases h1 : x ^ 7237005577332262213973186563042994240829374041602535252466099000494570602494 * x ^ 7237005577332262213973186563042994240829374041602535252466099000494570602494 % prm = x % prm
  · have e : rt x = x ^ 7237005577332262213973186563042994240829374041602535252466099000494570602494 := by unfold rt; rw [if_pos h1]
    have k : rok x = true := by rw [rok_iff, e]; exact h1
    have v : rval x = ev (x ^ 7237005577332262213973186563042994240829374041602535252466099000494570602494) := by unfold rval; rw [if_pos k, e]
    rw [k, v]
    exact root_T h h1
  · have e : rt x = x ^ 7237005577332262213973186563042994240829374041602535252466099000494570602494 * uu := by unfold rt; rw [if_neg h1]
    by_cases h2 : x ^ 7237005577332262213973186563042994240829374041602535252466099000494570602494 * uu * (x ^ 7237005577332262213973186563042994240829374041602535252466099000494570602494 * uu) % prm = x % prm
    · have k : rok x = true := by rw [rok_iff, e]; exact h2
      have v : rval x = ev (x ^ 7237005577332262213973186563042994240829374041602535252466099000494570602494 * uu) := by unfold rval; rw [if_pos k, e]
      rw [k, v]
      exact root_FT h h1 h2
    · have k : rok x = false := by rw [Bool.eq_false_iff]; intro q; rw [rok_iff, e] at q; exact h2 q
      have v : rval x = 0 := by unfold rval; rw [k]; rfl
      rw [k, v]
      exact root_FF h h1 h2
end Go.Proofs.YtnohfbpmckhbbaaDoor

namespace Go.Proofs.YtnohfbpmckhbbaaDoor
set_option maxRecDepth 100000
open Go.RowKit Go.Sort
attribute [local go_sem] setCell_drewN alloc_drewN


/-- What a slice of bytes says in a world. -/
def Bys (W : World) (v : Value) (bs : List Int) : Prop := ∃ ao cap, v = .slice ao bs.length cap ∧ bs.length ≤ 9223372036854775807 ∧ (∀ j, j < bs.length → ∃ b off, ao = some ⟨b, off, none⟩ ∧ b < W.heap.size ∧ W.cell? ⟨b, off + j, none⟩ = some (.int .u8 (bs.getD j 0))) ∧ (∀ z ∈ bs, 0 ≤ z ∧ z < 256)
theorem Bys.keep {W W' : World} {v : Value} {bs : List Int} (h : Bys W v bs) (hb : Below W.heap.size W W') : Bys W' v bs := by
  obtain ⟨ao, cap, e, hl, hc, hz⟩ := h
  refine ⟨ao, cap, e, hl, fun j hj => ?_, hz⟩
  obtain ⟨b, off, e1, h1, h2⟩ := hc j hj
  exact ⟨b, off, e1, Nat.lt_of_lt_of_le h1 hb.size, (hb.cell h1).trans h2⟩
/-- The number that bytes say, the lowest first. -/
def bval : List Int → Nat
  | [] => 0
  | z :: l => z.toNat + 256 * bval l
/-- The byte that comes up at round k, from the highest down. -/
def bat (bs : List Int) (k : Nat) : Int := bs.getD (bs.length - 1 - k) 0
theorem bat_bd {bs : List Int} (h : ∀ z ∈ bs, 0 ≤ z ∧ z < 256) {k : Nat} (hk : k < bs.length) : 0 ≤ bat bs k ∧ bat bs k < 256 := by
  apply h
  have : bs.length - 1 - k < bs.length := by omega
  unfold bat
  rw [List.getD_eq_getElem?_getD, List.getElem?_eq_getElem this]
  exact List.getElem_mem _
/-- The number of the k highest bytes. -/
def topv (bs : List Int) (k : Nat) : Nat := bval (bs.drop (bs.length - k))
theorem topv_zero (bs : List Int) : topv bs 0 = 0 := by simp [topv, bval]
theorem topv_succ {bs : List Int} {k : Nat} (hk : k < bs.length) : topv bs (k + 1) = topv bs k * 256 + (bat bs k).toNat := by
  have h1 : bs.length - (k + 1) < bs.length := by omega
  unfold topv bat
  rw [List.drop_eq_getElem_cons h1, bval, show bs.length - (k + 1) + 1 = bs.length - k by omega, show bs.length - 1 - k = bs.length - (k + 1) by omega, List.getD_eq_getElem?_getD, List.getElem?_eq_getElem h1]
  simp only [Option.getD_some]
  omega
theorem topv_all (bs : List Int) : topv bs bs.length = bval bs := by simp [topv]

/-- What Mul answers, whatever the cells. -/
noncomputable def nextMul (r s : Array Value) : Array Value := open Classical in if h : (∃ x, NumOf r x) ∧ ∃ y, NumOf s y then Classical.choose (a_mul (Classical.choose_spec h.1) (Classical.choose_spec h.2)) else r
theorem nextMul_spec {r s : Array Value} {x y : Int} (h : NumOf r x) (g : NumOf s y) : NumOf (nextMul r s) (x * y) ∧ Gives 18 #[.agg r, .agg s] (.agg (nextMul r s)) := by
  have hx : (∃ x, NumOf r x) ∧ ∃ y, NumOf s y := ⟨⟨x, h⟩, ⟨y, g⟩⟩
  have e : nextMul r s = Classical.choose (a_mul (Classical.choose_spec hx.1) (Classical.choose_spec hx.2)) := by unfold nextMul; exact dif_pos hx
  have sp := Classical.choose_spec (a_mul (Classical.choose_spec hx.1) (Classical.choose_spec hx.2))
  rw [← e] at sp
  refine ⟨sp.1.congr ?_, sp.2⟩
  have i := num_inj (Classical.choose_spec hx.1) h
  have j := num_inj (Classical.choose_spec hx.2) g
  rw [Int.mul_emod, i, j, ← Int.mul_emod]
/-- Behind j bits of the byte z. -/
noncomputable def bitsP (a s : Array Value) (z : Nat) : Nat → Array Value
  | 0 => s
  | j + 1 => if z / 2 ^ (7 - j) % 2 = 1 then nextMul (nextSq (bitsP a s z j)) a else nextSq (bitsP a s z j)
theorem bitsP_spec {a s : Array Value} {x : Int} {e z : Nat} (h : NumOf a x) (g : NumOf s (x ^ e)) (hz : z < 256) : ∀ j, j ≤ 8 → NumOf (bitsP a s z j) (x ^ (e * 2 ^ j + z / 2 ^ (8 - j)))
  | 0, _ => by
    rw [show z / 2 ^ (8 - 0) = 0 by omega, Nat.pow_zero, Nat.mul_one, Nat.add_zero]; exact g
  | j + 1, hj => by
    have ih := bitsP_spec h g hz j (by omega)
    have sq := (nextSq_spec ih).1
    rw [← Int.pow_add] at sq
    have hd : z / 2 ^ (8 - j) = z / 2 ^ (7 - j) / 2 := by
      rw [Nat.div_div_eq_div_mul, ← Nat.pow_succ, show (7 - j).succ = 8 - j by omega]
    have h2 : 2 ^ (j + 1) = 2 * 2 ^ j := by rw [Nat.pow_succ, Nat.mul_comm]
    have h3 : e * 2 ^ (j + 1) = e * 2 ^ j + e * 2 ^ j := by rw [h2, Nat.mul_left_comm]; omega
    unfold bitsP
    rw [show 8 - (j + 1) = 7 - j by omega, h3]
    split
    · have m := (nextMul_spec sq h).1
      rw [← Int.pow_succ] at m
      rw [show e * 2 ^ j + e * 2 ^ j + z / 2 ^ (7 - j) = e * 2 ^ j + z / 2 ^ (8 - j) + (e * 2 ^ j + z / 2 ^ (8 - j)) + 1 by omega]
      exact m
    · rw [show e * 2 ^ j + e * 2 ^ j + z / 2 ^ (7 - j) = e * 2 ^ j + z / 2 ^ (8 - j) + (e * 2 ^ j + z / 2 ^ (8 - j)) by omega]
      exact sq
/-- Behind k bytes, from the highest down; o: what stands for 1. -/
noncomputable def bytesP (a o : Array Value) (bs : List Int) : Nat → Array Value
  | 0 => o
  | k + 1 => bitsP a (bytesP a o bs k) (bat bs k).toNat 8
theorem bytesP_spec {a o : Array Value} {x : Int} {bs : List Int} (h : NumOf a x) (g : NumOf o 1) (hz : ∀ z ∈ bs, 0 ≤ z ∧ z < 256) : ∀ k, k ≤ bs.length → NumOf (bytesP a o bs k) (x ^ topv bs k)
  | 0, _ => by rw [topv_zero, Int.pow_zero]; exact g
  | k + 1, hk => by
    have b := bat_bd hz (k := k) (by omega)
    have := bitsP_spec h (bytesP_spec h g hz k (by omega)) (z := (bat bs k).toNat) (by omega) 8 (by omega)
    rw [Nat.sub_self, Nat.pow_zero, Nat.div_one] at this
    rw [topv_succ (by omega)]
    exact this

end Go.Proofs.YtnohfbpmckhbbaaDoor


namespace Go.Proofs.YtnohfbpmckhbbaaDoor
set_option maxRecDepth 100000
open Go.RowKit Go.Sort
attribute [local go_sem] setCell_drewN alloc_drewN


/-- A row of bytes. -/
def brow (l : List Int) : Array Value := (l.map fun z => Value.int .u8 z).toArray
theorem brow_get (l : List Int) (k : Nat) (hk : k < l.length) : (brow l)[k]? = some (.int .u8 (l.getD k 0)) := by
  simp [brow, List.getElem?_eq_getElem hk, List.getD_eq_getElem?_getD]
theorem brow_cell {W : World} {g : Nat} {l : List Int} {t : TypeId} (hg : W.heap[g]? = some (.cells (brow l) t (0, 0))) {k : Nat} (hk : k < l.length) : W.cell? ⟨g, k, none⟩ = some (.int .u8 (l.getD k 0)) := by
  simp only [World.cell?, hg]
  simpa using brow_get l k hk
theorem brow_frozen {W : World} {g : Nat} {l : List Int} {t : TypeId} (hg : W.heap[g]? = some (.cells (brow l) t (0, 0))) (k : Nat) : W.frozen? ⟨g, k, none⟩ = false := by
  simp [World.frozen?, hg]
theorem brow_set {W : World} {g : Nat} {l : List Int} {t : TypeId} (hg : W.heap[g]? = some (.cells (brow l) t (0, 0))) (k : Nat) (z : Int) : (W.setCell ⟨g, k, none⟩ (.int .u8 z)).heap[g]? = some (.cells (brow (l.set k z)) t (0, 0)) := by
  rw [heap_setCell_same W g k _ t _ hg]
  simp [brow, List.map_set]
theorem Bys.of_row {W : World} {g : Nat} {l : List Int} {t : TypeId} (hg : W.heap[g]? = some (.cells (brow l) t (0, 0))) (hl : l.length ≤ 9223372036854775807) (hz : ∀ z ∈ l, 0 ≤ z ∧ z < 256) (cap : Nat) : Bys W (.slice (some ⟨g, 0, none⟩) l.length cap) l := by
  refine ⟨_, cap, rfl, hl, fun j hj => ⟨g, 0, rfl, lt_of_row hg, ?_⟩, hz⟩
  rw [Nat.zero_add]
  exact brow_cell hg hj
def fillL (k : Nat) : List Int := List.replicate k 255 ++ List.replicate (32 - k) 0
theorem fillL_set : ∀ k, k < 32 → (fillL k).set k 255 = fillL (k + 1) := by decide
theorem fillL_255 : ∀ z ∈ fillL 32, z = 255 := by decide
theorem fillL_len : ∀ k, k ≤ 32 → (fillL k).length = 32 := by intro k hk; simp [fillL]; omega


end Go.Proofs.YtnohfbpmckhbbaaDoor


namespace Go.Proofs.YtnohfbpmckhbbaaDoor
set_option maxRecDepth 100000
open Go.RowKit Go.Sort
attribute [local go_sem] setCell_drewN alloc_drewN


/-- The marked room behind what is lent. -/
def marks (k : Nat) : List Int := (List.range k).map fun (i : Nat) => 171 + (i : Int)
theorem marks_succ (k : Nat) : marks (k + 1) = marks k ++ [171 + (k : Int)] := by simp [marks, List.range_succ]
theorem addr_add (b off j : Nat) : (⟨b, off, none⟩ : Addr).add j = ⟨b, off + j, none⟩ := by
  unfold Addr.add
  split
  · rename_i h; rw [h]; rfl
  · rfl
theorem info8 : ∃ i, Tryd.prog.info? 5 = some i ∧ i.zero = some (.int .u8 0) ∧ i.size = 1 ∧ i.bytes = 1 := ⟨_, rfl, rfl, rfl, rfl⟩
theorem ints_one (l : List Int) : ∀ u ∈ l.map (Value.int .u8), u.oneCell' = true := by
  intro u hu
  obtain ⟨z, _, rfl⟩ := List.mem_map.1 hu
  rfl
set_option maxHeartbeats 2000000 in
theorem lent_walk (bs : List Int) (w : World) (ev : Value) (hB : Bys w ev bs) (hl : bs.length + 32 ≤ 281474976710656) (hnil : ∀ a l c, ev = .slice a l c → a = none → c = 0) : Calls Tryd.prog 47 #[ev] w fun e w' => ∃ v, e = .returned v ∧ ∃ g, v = .tuple #[.slice (some ⟨g, 0, none⟩) bs.length (bs.length + 32), .slice (some ⟨g, 0, none⟩) (bs.length + 32) (bs.length + 32)] ∧ w.heap.size ≤ g ∧ w'.heap[g]? = some (.cells (brow (bs ++ marks 32)) 5 (0, 0)) ∧ Below w.heap.size w w' := by
  obtain ⟨ao, cap, rfl, _, hc, hz⟩ := hB
  obtain ⟨i0, hi, hz0, hz1, hz2⟩ := info8
  generalize hlen : bs.length = len at *
  go_enter Tryd.func47, Tryd.ntmps47
  go_wp2_with (at_make; refine wpList_make_own _ rfl _ _ 32 rfl w.heap.size 5 i0 (.int .u8 0) 1 Tryd.underlying32 hi hz0 hz1 _ _ _ (len + 32) rfl rfl (by omega) ?b2 ?b3 (Nat.le_refl _) ?_)
  case b2 => rw [hz2]; omega
  case b3 => unfold maxLen; omega
  intro w0 hown0 hgrow0
  have hnone : ao = none → len = 0 ∧ cap = 0 := by
    intro h
    refine ⟨?_, hnil _ _ _ rfl h⟩
    rcases Nat.eq_zero_or_pos len with e | e
    · exact e
    · obtain ⟨b, off, e', _⟩ := hc 0 e
      rw [h] at e'; cases e'
  have hcell : ∀ ad, ao = some ad → ∀ j u, (bs.map (Value.int .u8))[j]? = some u → w0.cell? (ad.add j) = some u := by
    intro ad had j u hu
    have hj : j < len := by
      have := (List.getElem?_eq_some_iff.1 hu).1
      simpa [hlen] using this
    obtain ⟨b, off, e', hb, hcl⟩ := hc j hj
    obtain rfl : ad = ⟨b, off, none⟩ := Option.some.inj (had.symm.trans e')
    have : u = .int .u8 (bs.getD j 0) := by
      have hj' : j < bs.length := by omega
      simp only [List.getElem?_map, List.getElem?_eq_getElem hj', Option.map_some, Option.some.injEq] at hu
      rw [← hu, List.getD_eq_getElem?_getD, List.getElem?_eq_getElem hj']; rfl
    rw [this]
    rw [addr_add]
    exact hgrow0.cell (a := ⟨b, off + j, none⟩) hcl (fun e => by cases e)
  go_wp2_with (at_builtin; refine wpList_append_fits_any _ rfl (.tmp 10) (.tmp 11) 32 rfl w.heap.size 5 i0 1 Tryd.underlying32 hi hz1 w.heap.size 0 (len + 32) [] rfl hown0 ao len cap (bs.map (Value.int .u8)) rfl (by simp [hlen]) hnone hcell (ints_one bs) (by omega) ?_)
  intro w1 hown1 hgrow1
  have hw : Below w.heap.size w w1 := ((Below.refl _ _).grown hgrow0 (Nat.le_refl _) (fun k h => by cases h)).grown hgrow1 hgrow0.size (fun k h => by cases h; exact Nat.le_refl _)
  clear hcell hown0 hgrow0 hgrow1
  go_wp2
  go_loopw [4, 5] (fun s i wr => ∃ k : Nat, k ≤ 32 ∧ i = .int .i64 k ∧ s = .slice (some ⟨w.heap.size, 0, none⟩) (len + k) (len + 32) ∧ wr.ownsRow w.heap.size 5 1 (.slice (some ⟨w.heap.size, 0, none⟩) (len + k) (len + 32)) (len + k) ((bs ++ marks k).map (Value.int .u8)) ∧ Below w.heap.size w wr) (fun _ i _ => 32 - (intOf i).toNat)
  case atStart => exact ⟨0, by omega, rfl, by simp, by simpa [marks] using hown1, hw⟩
  case round =>
    obtain ⟨k, hk, rfl, rfl, hown, hw⟩ := hrel
    by_cases hlt : k < 32
    · have hd : decide ((k : Int) < 32) = true := by simp; omega
      have hown' : (wr.alloc (.cells #[.int .u8 (171 + (k : Int))] 5)).ownsRow w.heap.size 5 1 (.slice (some ⟨w.heap.size, 0, none⟩) (len + k) (len + 32)) (len + k) ((bs ++ marks k).map (Value.int .u8)) := hown.kept (World.grownBy_alloc wr _ none) (.inr (by simp [Value.ownBlock]))
      have hnew : ∀ ad, some (⟨wr.heap.size, 0, none⟩ : Addr) = some ad → ∀ j u, [Value.int .u8 (171 + (k : Int))][j]? = some u → (wr.alloc (.cells #[.int .u8 (171 + (k : Int))] 5)).cell? (ad.add j) = some u := by
        intro ad had j u hu
        obtain rfl := Option.some.inj had
        have hj : j = 0 := by
          have := (List.getElem?_eq_some_iff.1 hu).1
          simp at this
          exact this
        subst hj
        simp at hu
        subst hu
        rw [addr_add]
        have hg : (wr.alloc (.cells #[.int .u8 (171 + (k : Int))] 5)).heap[wr.heap.size]? = some (.cells #[.int .u8 (171 + (k : Int))] 5 (0, 0)) := hp1_0 wr _
        simp only [World.cell?, hg]
        rfl
      go_wp2_with (at_builtin; refine wpList_append_fits_any _ rfl (.tmp 17) (.tmp 21) 32 rfl w.heap.size 5 i0 1 Tryd.underlying32 hi hz1 w.heap.size (len + k) (len + 32) _ rfl hown' (some ⟨wr.heap.size, 0, none⟩) 1 1 [.int .u8 (171 + (k : Int))] rfl rfl (by intro h; cases h) hnew (by simp [Value.oneCell']) (by omega) ?_)
      intro w2 hown2 hgrow2
      have hw2 : Below w.heap.size w w2 := (hw.alloc hw.size _).grown hgrow2 (by simp; have := hw.size; omega) (fun k h => by cases h; exact Nat.le_refl _)
      replace hown2 : w2.ownsRow w.heap.size 5 1 (.slice (some ⟨w.heap.size, 0, none⟩) (len + (k + 1)) (len + 32)) (len + (k + 1)) ((bs ++ marks (k + 1)).map (Value.int .u8)) := by rw [marks_succ, ← Nat.add_assoc]; simpa using hown2
      clear hown hown' hnew hgrow2 hw
      go_wp2
      go_roundw
      case rel => exact ⟨k + 1, by omega, by go_num, rfl, hown2, hw2⟩
      case measure => simp [intOf]; omega
    · obtain rfl : k = 32 := by omega
      have hd : decide ((32 : Int) < 32) = false := by decide
      have hrow : wr.heap[w.heap.size]? = some (.cells (brow (bs ++ marks 32)) 5 (0, 0)) := by
        obtain ⟨hlx, h | ⟨g, cp, cur, hv, _, hg, _, _, hs, ht⟩⟩ := hown
        · cases h.1
        · cases hv
          rw [hg]
          have : cur = brow (bs ++ marks 32) := by
            apply Array.ext'
            rw [brow, ← ht]
            symm
            apply List.take_of_length_le
            rw [Array.length_toList]
            omega
          rw [this]
      clear hown
      go_wp2
      go_ret2
      exact ⟨_, rfl, _, rfl, Nat.le_refl _, hrow, hw⟩

end Go.Proofs.YtnohfbpmckhbbaaDoor


namespace Go.Proofs.YtnohfbpmckhbbaaDoor
set_option maxRecDepth 100000
open Go.RowKit Go.Sort
attribute [local go_sem] setCell_drewN alloc_drewN


theorem at_low (bs : List Int) (k : Nat) (hk : k < bs.length) : (bs ++ marks 32).getD k 0 = bs.getD k 0 := by
  simp [List.getD_eq_getElem?_getD, List.getElem?_append_left hk]
theorem at_high (bs : List Int) (k : Nat) (hk : ¬ k < bs.length) (hu : k < bs.length + 32) : (bs ++ marks 32).getD k 0 = 171 + (k : Int) - bs.length := by
  have : k - bs.length < 32 := by omega
  rw [List.getD_eq_getElem?_getD, List.getElem?_append_right (by omega)]
  simp [marks, this]
  omega
set_option maxHeartbeats 2000000 in
theorem kept_walk (bs : List Int) (g : Nat) (w : World) (ev : Value) (hB : Bys w ev bs) (hl : bs.length + 32 ≤ 281474976710656) (hg : w.heap[g]? = some (.cells (brow (bs ++ marks 32)) 5 (0, 0))) : Calls Tryd.prog 49 #[.slice (some ⟨g, 0, none⟩) (bs.length + 32) (bs.length + 32), ev] w fun e w' => e = .returned (.bool true) ∧ Below w.heap.size w w' := by
  obtain ⟨ao, cap, rfl, _, hc, hz⟩ := hB
  have hall : ∀ k, k < bs.length + 32 → w.cell? ⟨g, k, none⟩ = some (.int .u8 ((bs ++ marks 32).getD k 0)) := fun k hk => brow_cell hg (by simp [marks]; omega)
  have hgs := lt_of_row hg
  have hlow := at_low bs
  have hhigh := at_high bs
  generalize hlen : bs.length = len at *
  go_enter Tryd.func49, Tryd.ntmps49
  go_wp2
  go_loopw [5] (fun i wr => ∃ k : Nat, k ≤ len + 32 ∧ i = .int .i64 k ∧ Below w.heap.size w wr) (fun i _ => len + 32 - (intOf i).toNat)
  case atStart => exact ⟨0, by omega, rfl, Below.refl _ _⟩
  case round =>
    obtain ⟨k, hk, rfl, hw⟩ := hrel
    by_cases hlt : k < len + 32
    · have hd : decide ((k : Int) < (len : Int) + 32) = true := by simp; omega
      have h1 := (hw.cell (p := ⟨g, k, none⟩) hgs).trans (hall k hlt)
      by_cases hin : k < len
      · obtain ⟨b, off, rfl, hb1, hb2⟩ := hc k hin
        replace hb2 := (hw.cell (p := ⟨b, off + k, none⟩) hb1).trans hb2
        rw [hlow k hin] at h1
        have hd2 : decide ((k : Int) < (len : Int)) = true := by simp; omega
        have hd3 : decide (len ≤ k) = false := decide_eq_false (by omega)
        generalize bs.getD k 0 = z at *
        have k1 : ∀ p : Regrown, (grow (redrawn wr p.d) p.os).cell? ⟨g, k, none⟩ = some (.int .u8 z) := fun p => cell_regrown h1 p.d p.os
        have k2 : ∀ p : Regrown, (grow (redrawn wr p.d) p.os).cell? ⟨b, off + k, none⟩ = some (.int .u8 z) := fun p => cell_regrown hb2 p.d p.os
        clear h1 hb2 hall hc hlow hhigh
        go_wp2
        refine wp_region_quiet_below (by kernel_rfl) (by kernel_rfl) ?_
        go_big_quiet_step (fail)
        go_big_quiet_step (fail)
        go_big_quiet_step (fail)
        go_big_quiet_step (fail)
        go_big_quiet_step (fail)
        go_big_quiet_step (fail)
        go_big_quiet_step (fail)
        go_big_quiet_step (fail)
        go_big_quiet_step (fail)
        go_big_quiet_step (fail)
        go_big_quiet_step (fail)
        go_big_quiet_step (fail)
        go_big_quiet_step (fail)
        go_big_quiet_step (fail)
        go_big_quiet_step (fail)
        go_big_quiet_step (fail)
        go_big_quiet_step (fail)
        go_big_quiet_step (fail)
        go_big_quiet_step (fail)
        go_big_quiet_step (fail)
        go_big_quiet_step (fail)
        go_big_quiet_step (fail)
        go_big_quiet_step (fail)
        go_big_quiet_step (fail)
        go_big_quiet_step (fail)
        go_big_quiet_step (fail)
        go_big_quiet_step (fail)
        go_big_quiet_step (fail)
        go_big_quiet_step (fail)
        go_big_quiet_step (fail)
        go_big_quiet_step (fail)
        go_big_quiet_step (fail)
        go_big_quiet_step (fail)
        go_big_quiet_step (fail)
        refine wpQuiet_nil ?_
        rintro _ ⟨p, rfl⟩
        have hb := below_regrown wr p.d p.os
        clear k1 k2
        generalize grow (redrawn wr p.d) p.os = w2 at *
        replace hw := Below.after hw hb
        clear hb
        go_wp2
        go_roundw
        case rel => exact ⟨k + 1, by omega, by go_num, hw⟩
        case measure => simp [intOf]; omega
      · rw [hhigh k hin hlt] at h1
        have hd2 : decide ((k : Int) < (len : Int)) = false := by simp; omega
        have hd3 : decide (len ≤ k) = true := decide_eq_true (by omega)
        have k1 : ∀ p : Regrown, (grow (redrawn wr p.d) p.os).cell? ⟨g, k, none⟩ = some (.int .u8 (171 + (k : Int) - len)) := fun p => cell_regrown h1 p.d p.os
        clear h1 hall hc hlow hhigh
        go_wp2
        refine wp_region_quiet_below (by kernel_rfl) (by kernel_rfl) ?_
        go_big_quiet_step (fail)
        go_big_quiet_step (fail)
        go_big_quiet_step (fail)
        go_big_quiet_step (fail)
        go_big_quiet_step (fail)
        go_big_quiet_step (fail)
        go_big_quiet_step (fail)
        go_big_quiet_step (fail)
        go_big_quiet_step (fail)
        go_big_quiet_step (fail)
        go_big_quiet_step (fail)
        go_big_quiet_step (fail)
        go_big_quiet_step (fail)
        go_big_quiet_step (fail)
        go_big_quiet_step (fail)
        go_big_quiet_step (fail)
        go_big_quiet_step (fail)
        go_big_quiet_step (fail)
        go_big_quiet_step (fail)
        go_big_quiet_step (fail)
        go_big_quiet_step (fail)
        go_big_quiet_step (fail)
        go_big_quiet_step (fail)
        go_big_quiet_step (fail)
        go_big_quiet_step (fail)
        go_big_quiet_step (fail)
        go_big_quiet_step (fail)
        go_big_quiet_step (fail)
        go_big_quiet_step (fail)
        go_big_quiet_step (fail)
        go_big_quiet_step (fail)
        go_big_quiet_step (fail)
        go_big_quiet_step (fail)
        go_big_quiet_step (fail)
        refine wpQuiet_nil ?_
        rintro _ ⟨p, rfl⟩
        have hb := below_regrown wr p.d p.os
        clear k1
        generalize grow (redrawn wr p.d) p.os = w2 at *
        replace hw := Below.after hw hb
        clear hb
        go_wp2
        go_roundw
        case rel => exact ⟨k + 1, by omega, by go_num, hw⟩
        case measure => simp [intOf]; omega
    · obtain rfl : k = len + 32 := by omega
      have hd : decide (((len + 32 : Nat) : Int) < (len : Int) + 32) = false := by simp
      go_wp2
      go_ret
      exact ⟨rfl, hw⟩

end Go.Proofs.YtnohfbpmckhbbaaDoor


namespace Go.Proofs.YtnohfbpmckhbbaaDoor
set_option maxRecDepth 100000
open Go.RowKit Go.Sort
attribute [local go_sem] setCell_drewN alloc_drewN


theorem and8 (x : Int) (h0 : 0 ≤ x) (h1 : x < 256) : bits .and .u8 x 1 = x % 2 := by
  rw [u8_and x 1 h0 h1 (by decide) (by decide)]
  have e : (1 : Int).toNat = 1 := by decide
  rw [e, nat_mask1]
  omega
theorem bit_at (z : Int) (j : Nat) (h0 : 0 ≤ z) (h1 : z < 256) : (bits .and .u8 (z / 2 ^ j) 1 == 1) = decide (z.toNat / 2 ^ j % 2 = 1) := by
  obtain ⟨m, rfl⟩ := Int.eq_ofNat_of_zero_le h0
  have e : (m : Int) / 2 ^ j = ((m / 2 ^ j : Nat) : Int) := by simp
  have hle := Nat.div_le_self m (2 ^ j)
  rw [e, Int.toNat_natCast]
  generalize m / 2 ^ j = q at *
  rw [and8 _ (by omega) (by omega)]
  by_cases h : q % 2 = 1
  · rw [decide_eq_true h, beq_iff_eq]; omega
  · rw [decide_eq_false h, beq_eq_false_iff_ne]; omega
theorem bit_iff (z : Int) (j : Nat) (h0 : 0 ≤ z) (h1 : z < 256) : (bits .and .u8 (z / 2 ^ j) 1 = 1) = (z.toNat / 2 ^ j % 2 = 1) := by
  have := bit_at z j h0 h1
  apply propext
  constructor
  · intro h; rw [h] at this; exact of_decide_eq_true this.symm
  · intro h; rw [decide_eq_true h] at this; exact beq_iff_eq.1 this
set_option maxHeartbeats 4000000 in
set_option maxRecDepth 10000 in
theorem power_walk {r o : Array Value} {x : Int} {bs : List Int} (h : NumOf r x) (g : NumOf o 1) (co : Gives 12 #[.int .u64 1] (.agg o)) (w : World) (ev : Value) (hB : Bys w ev bs) :
    Calls Tryd.prog 48 #[.agg r, ev] w fun e w' => e = .returned (.agg (bytesP r o bs bs.length)) ∧ Below w.heap.size w w' := by
  obtain ⟨ao, cap, rfl, hl, hc, hz⟩ := hB
  have hP := bytesP_spec h g hz
  generalize hlen : bs.length = len at *
  go_enter Tryd.func48, Tryd.ntmps48
  go_wp2_with (first | (refine wpList_load_want rfl 26 _ rfl (w.heap.size) rfl 26 r (0, 0) _ (hp2_0 w _ _) Tryd.underlying26 rfl h.info ?_) | (refine wpList_load_want rfl 26 _ rfl (w.heap.size + 1) rfl 26 #[.int .u64 0, .int .u64 0, .int .u64 0, .int .u64 0, .int .u64 0] (0, 0) _ (hp2_1 w _ _) Tryd.underlying26 rfl num_zero.info ?_) | fail)
  have rp0 : ((w.alloc (.cells r 26)).alloc (.cells #[.int .u64 0, .int .u64 0, .int .u64 0, .int .u64 0, .int .u64 0] 26)).heap[w.heap.size]? = some (.cells r 26 (0, 0)) := hp2_0 w _ _
  have rp1 : ((w.alloc (.cells r 26)).alloc (.cells #[.int .u64 0, .int .u64 0, .int .u64 0, .int .u64 0, .int .u64 0] 26)).heap[w.heap.size + 1]? = some (.cells #[.int .u64 0, .int .u64 0, .int .u64 0, .int .u64 0, .int .u64 0] 26 (0, 0)) := hp2_1 w _ _
  have hw : Below w.heap.size w ((w.alloc (.cells r 26)).alloc (.cells #[.int .u64 0, .int .u64 0, .int .u64 0, .int .u64 0, .int .u64 0] 26)) := (((Below.refl _ _).alloc (Nat.le_refl _) _).alloc (by simp) _)
  generalize ((w.alloc (.cells r 26)).alloc (.cells #[.int .u64 0, .int .u64 0, .int .u64 0, .int .u64 0, .int .u64 0] 26)) = w0 at *
  refine (co.at _).mono ?_
  rintro e w2 ⟨rfl, hb⟩
  replace rp0 := keep hb rp0
  replace rp1 := keep hb rp1
  replace hw := Below.after hw hb
  clear hb
  go_wp2_with (first | (refine wpList_store_row rfl 26 _ _ rfl (w2.heap.size) o rfl rfl 26 #[.int .u64 0, .int .u64 0, .int .u64 0, .int .u64 0, .int .u64 0] (hp1_0 w2 _) g.info (g.fits rfl) g.one ?_; rw [setRow_alloc_new _ _ _ _ _ _ (by simp)]) | fail | fail)
  have rl5 : (w2.alloc (.cells o 26)).heap[w2.heap.size]? = some (.cells o 26 (0, 0)) := hp1_0 w2 _
  have hb : Below w2.heap.size w2 (w2.alloc (.cells o 26)) := ((Below.refl _ _).alloc (Nat.le_refl _) _)
  generalize (w2.alloc (.cells o 26)) = wa at *
  have yg5_0 := lt_of_row rp0
  have yg5_1 := lt_of_row rp1
  have yg5 := hw.size
  replace rp0 := keep hb rp0
  replace rp1 := keep hb rp1
  replace hw := Below.after hw hb
  clear hb
  generalize w2.heap.size = g5 at *
  clear w2
  go_loopw [12] (fun i wr => ∃ k : Nat, k ≤ len ∧ i = .int .i64 k ∧ wr.heap[w.heap.size]? = some (.cells r 26 (0, 0)) ∧ wr.heap[w.heap.size + 1]? = some (.cells #[.int .u64 0, .int .u64 0, .int .u64 0, .int .u64 0, .int .u64 0] 26 (0, 0)) ∧ wr.heap[g5]? = some (.cells (bytesP r o bs k) 26 (0, 0)) ∧ Below w.heap.size w wr) (fun i _ => len - (intOf i).toNat)
  case atStart => exact ⟨0, by omega, rfl, rp0, rp1, rl5, hw⟩
  case round =>
    clear rp0 rp1 rl5 hw
    obtain ⟨k, hk, rfl, rp0, rp1, rl5, hw⟩ := hrel
    have hn := hP k hk
    by_cases hlt : k < len
    · have hd : decide ((k : Int) < (len : Int)) = true := by simp; omega
      obtain ⟨b, off, rfl, hb1, hb2⟩ := hc (len - 1 - k) (by omega)
      replace hb2 := (hw.cell hb1).trans hb2
      have hbat := bat_bd hz (k := k) (by omega)
      rw [show bs.getD (len - 1 - k) 0 = bat bs k by unfold bat; rw [hlen]] at hb2
      generalize hzz : bat bs k = z at *
      go_wp2
      go_loopw [23] (fun i wv => ∃ j : Nat, j ≤ 8 ∧ i = .int .i64 j ∧ wv.heap[w.heap.size]? = some (.cells r 26 (0, 0)) ∧ wv.heap[w.heap.size + 1]? = some (.cells #[.int .u64 0, .int .u64 0, .int .u64 0, .int .u64 0, .int .u64 0] 26 (0, 0)) ∧ wv.heap[g5]? = some (.cells (bitsP r (bytesP r o bs k) z.toNat j) 26 (0, 0)) ∧ Below w.heap.size w wv) (fun i _ => 8 - (intOf i).toNat)
      case atStart => exact ⟨0, by omega, rfl, rp0, rp1, rl5, hw⟩
      case round =>
        clear rp0 rp1 rl5 hw hb2
        obtain ⟨j, hj, rfl, rp0, rp1, rl5, hw⟩ := hrel
        have hbn := bitsP_spec h hn (z := z.toNat) (by omega) j hj
        by_cases hlj : j < 8
        · have hdj : decide ((j : Int) < 8) = true := by simp; omega
          obtain ⟨hs, cs⟩ := nextSq_spec hbn
          obtain ⟨hm, cm⟩ := nextMul_spec hs h
          have hstep : bitsP r (bytesP r o bs k) z.toNat (j + 1) = if z.toNat / 2 ^ (7 - j) % 2 = 1 then nextMul (nextSq (bitsP r (bytesP r o bs k) z.toNat j)) r else nextSq (bitsP r (bytesP r o bs k) z.toNat j) := rfl
          generalize bitsP r (bytesP r o bs k) z.toNat j = s0 at *
          generalize nextMul (nextSq s0) r = s2 at *
          generalize nextSq s0 = s1 at *
          have csw := fun on => a_swap hs hm on
          go_wp2_with (first | (refine wpList_load_want rfl 26 _ rfl (g5) rfl 26 s0 (0, 0) _ rl5 Tryd.underlying26 rfl hbn.info ?_) | fail)
          refine (cs.at _).mono ?_
          rintro e w1 ⟨rfl, hb⟩
          replace rp0 := keep hb rp0
          replace rp1 := keep hb rp1
          replace rl5 := keep hb rl5
          replace hw := Below.after hw hb
          clear hb
          go_wp2_with (first | (refine wpList_store_row rfl 26 _ _ rfl (g5) s1 rfl rfl 26 _ rl5 hs.info (hbn.size.trans hs.size.symm) hs.one ?_) | fail)
          replace rp0 := (setRow_other w1 g5 (w.heap.size) s1 (by omega)).trans rp0
          replace rp1 := (setRow_other w1 g5 (w.heap.size + 1) s1 (by omega)).trans rp1
          replace rl5 := setRow_heap w1 g5 _ s1 _ _ rl5
          replace hw := below_setRow hw (show w.heap.size ≤ g5 by omega) s1
          generalize w1.setRow g5 s1 = w2 at *
          have Hrp0 := keepr rp0
          have Hrl5 := keepr rl5
          refine wp_region_tail2 (C := fun w' => ∃ p : Regrown, w' = grow (redrawn w2 p.d) p.os) 14 13 _ _ rfl rfl (.tmp 28) 1 rfl 41 rfl rfl 26 5 40 rfl (by decide) (by decide) rfl rfl (by kernel_rfl) (by kernel_rfl) (by kernel_rfl) (by kernel_rfl) ⟨⟨w2.drawn + 1, #[]⟩, by rw [grow_empty]; rfl⟩ ?_
          dsimp only [List.set, idle]
          refine wpQuiet_load_row rfl 26 _ rfl (g5) rfl 26 s1 (0, 0) _ Hrl5.out Tryd.underlying26 rfl hs.info ?_
          simp only [Act.put, List.setIfInBounds_toArray, List.set_cons_succ, List.set_cons_zero]
          refine wpQuiet_load_row rfl 26 _ rfl (g5) rfl 26 s1 (0, 0) _ Hrl5.out Tryd.underlying26 rfl hs.info ?_
          simp only [Act.put, List.setIfInBounds_toArray, List.set_cons_succ, List.set_cons_zero]
          refine wpQuiet_load_row rfl 26 _ rfl (w.heap.size) rfl 26 r (0, 0) _ Hrp0.out Tryd.underlying26 rfl h.info ?_
          simp only [Act.put, List.setIfInBounds_toArray, List.set_cons_succ, List.set_cons_zero]
          go_big_quiet_step (exact cm.re)
          go_big_quiet_step (fail)
          go_big_quiet_step (fail)
          go_big_quiet_step (fail)
          go_big_quiet_step (fail)
          go_big_quiet_step (fail)
          go_big_quiet_step (fail)
          go_big_quiet_step (exact (csw _).re)
          go_big_quiet_step (fail)
          go_big_quiet_step (fail)
          go_big_quiet_step (fail)
          refine wpQuiet_idle rfl rfl rfl ?_
          rintro _ ⟨p, rfl⟩
          have hb := below_regrown w2 p.d p.os
          generalize grow (redrawn w2 p.d) p.os = w3 at *
          replace rp0 := keep hb rp0
          replace rp1 := keep hb rp1
          replace rl5 := keep hb rl5
          replace hw := Below.after hw hb
          clear hb Hrp0 Hrl5
          simp only [bit_at z (7 - j) hbat.1 hbat.2, bit_iff z (7 - j) hbat.1 hbat.2, decide_eq_true_eq]
          have hs3 : NumOf (bitsP r (bytesP r o bs k) z.toNat (j + 1)) _ := bitsP_spec h hn (z := z.toNat) (by omega) (j + 1) (by omega)
          rw [← hstep]
          generalize hs3e : bitsP r (bytesP r o bs k) z.toNat (j + 1) = s3 at *
          clear hstep
          refine ⟨_, run_store_op 26 _ _ rfl g5 s3 rfl rfl 26 _ rl5 hs3.info (hs.size.trans hs3.size.symm) hs3.one, ?_⟩
          simp only [Exit.inBlock, Exit.then]
          go_wp2
          go_roundw
          case rel => exact ⟨j + 1, by omega, by go_num, (setRow_other w3 g5 (w.heap.size) s3 (by omega)).trans rp0, (setRow_other w3 g5 (w.heap.size + 1) s3 (by omega)).trans rp1, by rw [hs3e]; exact setRow_heap w3 g5 _ s3 _ _ rl5, below_setRow hw (show w.heap.size ≤ g5 by omega) s3⟩
          case measure => simp [intOf]; omega
        · obtain rfl : j = 8 := by omega
          have hdj : decide ((8 : Int) < 8) = false := by decide
          go_wp2
          go_roundw
          case rel => exact ⟨k + 1, by omega, by go_num, rp0, rp1, by rw [show bytesP r o bs (k + 1) = bitsP r (bytesP r o bs k) z.toNat 8 by rw [← hzz]; rfl]; exact rl5, hw⟩
          case measure => simp [intOf]; omega
    · obtain rfl : k = len := by omega
      have hd : decide ((k : Int) < (k : Int)) = false := by simp
      go_wp2_with (first | (refine wpList_load_want rfl 26 _ rfl (g5) rfl 26 (bytesP r o bs k) (0, 0) _ rl5 Tryd.underlying26 rfl hn.info ?_) | (refine wpList_store_row rfl 26 _ _ rfl (w.heap.size + 1) (bytesP r o bs k) rfl rfl 26 _ rp1 hn.info (num_zero.size.trans hn.size.symm) hn.one ?_) | fail)
      exact bodyPost_ret (v := .agg (bytesP r o bs k)) (results_cell_row Tryd.results48 _ _ (w.heap.size + 1) _ (bytesP r o bs k) _ _ rfl (setRow_heap _ _ _ _ _ _ rp1) Tryd.underlying26 rfl hn.info) rfl ⟨rfl, below_setRow hw (by omega) _⟩
theorem a_power {r : Array Value} {x : Int} (h : NumOf r x) (bs : List Int) (hz : ∀ z ∈ bs, 0 ≤ z ∧ z < 256) : ∃ s, NumOf s (x ^ bval bs) ∧ ∀ (w : World) (ev : Value), Bys w ev bs → Calls Tryd.prog 48 #[.agg r, ev] w fun e w' => e = .returned (.agg s) ∧ Below w.heap.size w w' := by
  obtain ⟨o, g, co⟩ := a_small 1 (by decide) (by decide)
  refine ⟨bytesP r o bs bs.length, ?_, fun w ev hB => power_walk h g co w ev hB⟩
  rw [← topv_all]
  exact bytesP_spec h g hz _ (Nat.le_refl _)

end Go.Proofs.YtnohfbpmckhbbaaDoor


namespace Go.Proofs.YtnohfbpmckhbbaaDoor
set_option maxRecDepth 100000
open Go.RowKit Go.Sort
attribute [local go_sem] setCell_drewN alloc_drewN


theorem Bys.of_prefix {W : World} {g : Nat} {l m : List Int} {t : TypeId} (hg : W.heap[g]? = some (.cells (brow (l ++ m)) t (0, 0))) (hl : l.length ≤ 9223372036854775807) (hz : ∀ z ∈ l, 0 ≤ z ∧ z < 256) (cap : Nat) : Bys W (.slice (some ⟨g, 0, none⟩) l.length cap) l := by
  refine ⟨_, cap, rfl, hl, fun j hj => ⟨g, 0, rfl, lt_of_row hg, ?_⟩, hz⟩
  rw [Nat.zero_add, brow_cell hg (by rw [List.length_append]; omega), List.getD_eq_getElem?_getD, List.getElem?_append_left hj, ← List.getD_eq_getElem?_getD]
set_option maxRecDepth 100000 in
set_option maxHeartbeats 2000000 in
theorem a_raised {r : Array Value} {x : Int} (h : NumOf r x) (bs : List Int) (hz : ∀ z ∈ bs, 0 ≤ z ∧ z < 256) (hl : bs.length + 32 ≤ 281474976710656) : ∃ s, NumOf s (x ^ bval bs) ∧ ∀ (w : World) (ev : Value), Bys w ev bs → (∀ a l c, ev = .slice a l c → a = none → c = 0) → Calls Tryd.prog 21 #[.agg r, ev] w fun e w' => e = .returned (.tuple #[.agg s, .bool true]) ∧ Below w.heap.size w w' := by
  obtain ⟨s, hs, cP⟩ := a_power h bs hz
  refine ⟨s, hs, fun w ev hB hnil => ?_⟩
  go_enter Tryd.func21, Tryd.ntmps21
  go_wp2_with (first | (refine wpList_load_want rfl 26 _ rfl (w.heap.size) rfl 26 r (0, 0) _ (hp2_0 w _ _) Tryd.underlying26 rfl h.info ?_) | (refine wpList_load_want rfl 26 _ rfl (w.heap.size + 1) rfl 26 #[.int .u64 0, .int .u64 0, .int .u64 0, .int .u64 0, .int .u64 0] (0, 0) _ (hp2_1 w _ _) Tryd.underlying26 rfl num_zero.info ?_) | fail)
  have rp0 : ((w.alloc (.cells r 26)).alloc (.cells #[.int .u64 0, .int .u64 0, .int .u64 0, .int .u64 0, .int .u64 0] 26)).heap[w.heap.size]? = some (.cells r 26 (0, 0)) := hp2_0 w _ _
  have rp1 : ((w.alloc (.cells r 26)).alloc (.cells #[.int .u64 0, .int .u64 0, .int .u64 0, .int .u64 0, .int .u64 0] 26)).heap[w.heap.size + 1]? = some (.cells #[.int .u64 0, .int .u64 0, .int .u64 0, .int .u64 0, .int .u64 0] 26 (0, 0)) := hp2_1 w _ _
  have hw : Below w.heap.size w ((w.alloc (.cells r 26)).alloc (.cells #[.int .u64 0, .int .u64 0, .int .u64 0, .int .u64 0, .int .u64 0] 26)) := (((Below.refl _ _).alloc (Nat.le_refl _) _).alloc (by simp) _)
  generalize ((w.alloc (.cells r 26)).alloc (.cells #[.int .u64 0, .int .u64 0, .int .u64 0, .int .u64 0, .int .u64 0] 26)) = w0 at *
  refine (lent_walk bs w0 ev (hB.keep hw) hl hnil).mono ?_
  rintro e w1 ⟨_, rfl, gl, rfl, hge, hrow, hb⟩
  have hgl : w.heap.size + 1 < gl := Nat.lt_of_lt_of_le (lt_of_row rp1) hge
  clear hge
  replace rp0 := keep hb rp0
  replace rp1 := keep hb rp1
  replace hw := Below.after hw hb
  clear hb
  go_wp2_with (first | (refine wpList_load_want rfl 26 _ rfl (w.heap.size) rfl 26 r (0, 0) _ rp0 Tryd.underlying26 rfl h.info ?_) | fail)
  refine (cP _ _ (Bys.of_prefix hrow (by omega) hz _)).mono ?_
  rintro e w2 ⟨rfl, hb⟩
  replace rp0 := keep hb rp0
  replace rp1 := keep hb rp1
  replace hrow := keep hb hrow
  replace hw := Below.after hw hb
  clear hb
  go_wp2_with (first | (refine wpList_store_row rfl 26 _ _ rfl (w2.heap.size) s rfl rfl 26 #[.int .u64 0, .int .u64 0, .int .u64 0, .int .u64 0, .int .u64 0] (hp1_0 w2 _) hs.info (hs.fits rfl) hs.one ?_; rw [setRow_alloc_new _ _ _ _ _ _ (by simp)]) | fail | fail)
  have rl8 : (w2.alloc (.cells s 26)).heap[w2.heap.size]? = some (.cells s 26 (0, 0)) := hp1_0 w2 _
  have hb : Below w2.heap.size w2 (w2.alloc (.cells s 26)) := ((Below.refl _ _).alloc (Nat.le_refl _) _)
  generalize (w2.alloc (.cells s 26)) = w3 at *
  have yg8_0 := lt_of_row rp0
  have yg8_1 := lt_of_row rp1
  have yg8_2 := lt_of_row hrow
  have yg8 := hw.size
  replace rp0 := keep hb rp0
  replace rp1 := keep hb rp1
  replace hrow := keep hb hrow
  replace hw := Below.after hw hb
  clear hb
  generalize w2.heap.size = g8 at *
  clear w2
  refine wp_region_any (by kernel_rfl) ?_
  have hb : Below w3.heap.size w3 { w3 with drawn := w3.drawn + 1 } := ⟨rfl, rfl, rfl, Nat.le_refl _, fun _ _ => rfl⟩
  generalize ({ w3 with drawn := w3.drawn + 1 } : World) = w1 at *
  replace rp0 := keep hb rp0
  replace rp1 := keep hb rp1
  replace hrow := keep hb hrow
  replace rl8 := keep hb rl8
  replace hw := Below.after hw hb
  clear hb
  refine wpAny_ready (rs := [0, 1, 2]) (fuel := 5) (by kernel_rfl) (by simp) (AllReady.cons rfl (fun K' hK => ?_) (AllReady.cons rfl (fun K' hK => ?_) (AllReady.cons rfl (fun K' hK => ?_) AllReady.nil)))
  · skip
    rw [if_pos (by kernel_rfl)]
    simp only [List.getElem_toArray, List.getElem_cons_zero]
    refine wp_load_row 26 _ rfl (g8) rfl 26 s (0, 0) _ rl8 Tryd.underlying26 rfl hs.info (hK _ _ ?_)
    simp only [Act.put, List.setIfInBounds_toArray, List.set_cons_succ, List.set_cons_zero]
    clear hK
    refine wpAny_ready (rs := [1, 2]) (fuel := 4) (by kernel_rfl) (by simp) (AllReady.cons rfl (fun K' hK => ?_) (AllReady.cons rfl (fun K' hK => ?_) AllReady.nil))
    · skip
      rw [if_pos (by kernel_rfl)]
      simp only [List.getElem_toArray, List.getElem_cons_succ, List.getElem_cons_zero]
      refine wp_pure_op ((.slice (some ⟨gl, 0, none⟩) (bs.length + 32) (bs.length + 32))) (by kernel_rfl) (hK _ _ ?_)
      simp only [Act.put, List.setIfInBounds_toArray, List.set_cons_succ, List.set_cons_zero]
      clear hK
      refine wpAny_ready (rs := [2]) (fuel := 3) (by kernel_rfl) (by simp) (AllReady.cons rfl (fun K' hK => ?_) AllReady.nil)
      rw [if_pos (by kernel_rfl)]
      simp only [List.getElem_toArray, List.getElem_cons_succ, List.getElem_cons_zero]
      refine wp_pure_op (ev) (by kernel_rfl) (hK _ _ ?_)
      simp only [Act.put, List.setIfInBounds_toArray, List.set_cons_succ, List.set_cons_zero]
      clear hK
      refine wpAny_ready (rs := [3]) (fuel := 2) (by kernel_rfl) (by simp) (AllReady.cons rfl (fun K' hK => ?_) AllReady.nil)
      rw [if_pos (by kernel_rfl)]
      simp only [List.getElem_toArray, List.getElem_cons_succ, List.getElem_cons_zero]
      refine wp_call_op (f := 49) (args := #[(.slice (some ⟨gl, 0, none⟩) (bs.length + 32) (bs.length + 32)), ev]) (by kernel_rfl) (kept_walk bs gl w1 ev (hB.keep hw) hl hrow) (fun w2 hb => hK _ _ ?_)
      simp only [Act.put, List.setIfInBounds_toArray, List.set_cons_succ, List.set_cons_zero]
      clear hK
      replace rp0 := keep hb rp0
      replace rp1 := keep hb rp1
      replace hrow := keep hb hrow
      replace rl8 := keep hb rl8
      replace hw := Below.after hw hb
      clear hb
      refine wpAny_ready (rs := [4]) (fuel := 1) (by kernel_rfl) (by simp) (AllReady.cons rfl (fun K' hK => ?_) AllReady.nil)
      rw [if_pos (by kernel_rfl)]
      simp only [List.getElem_toArray, List.getElem_cons_succ, List.getElem_cons_zero]
      refine wp_store_row 26 _ _ rfl (w.heap.size + 1) s rfl rfl 26 _ rp1 hs.info (num_zero.size.trans hs.size.symm) hs.one (hK _ _ ?_)
      simp only [Act.put]
      clear hK
      replace rp0 := (setRow_other w2 (w.heap.size + 1) (w.heap.size) s (by first | assumption | omega)).trans rp0
      replace hrow := (setRow_other w2 (w.heap.size + 1) (gl) s (by first | assumption | omega)).trans hrow
      replace rl8 := (setRow_other w2 (w.heap.size + 1) (g8) s (by first | assumption | omega)).trans rl8
      replace rp1 := setRow_heap w2 (w.heap.size + 1) _ s _ _ rp1
      replace hw := below_setRow hw (show w.heap.size ≤ w.heap.size + 1 by first | assumption | omega) s
      generalize w2.setRow (w.heap.size + 1) s = w3 at *
      refine wpAny_ready (rs := [5]) (fuel := 0) (by kernel_rfl) (by simp) (AllReady.cons rfl (fun K' hK => ?_) AllReady.nil)
      rw [if_pos (by kernel_rfl)]
      simp only [List.getElem_toArray, List.getElem_cons_succ, List.getElem_cons_zero]
      refine wp_pure_op (.bool true) (by kernel_rfl) (hK _ _ ?_)
      simp only [Act.put, List.setIfInBounds_toArray, List.set_cons_succ, List.set_cons_zero]
      clear hK
      refine wpAny_done (by kernel_rfl) ?_ _
      go_wp2
      exact bodyPost_ret (v := .tuple #[.agg s, .bool true]) (results_row_slot Tryd.results21 _ _ (w.heap.size + 1) _ s _ _ (.bool true) rfl rp1 rfl Tryd.underlying26 rfl hs.info) rfl ⟨rfl, hw⟩
    · skip
      rw [if_pos (by kernel_rfl)]
      simp only [List.getElem_toArray, List.getElem_cons_succ, List.getElem_cons_zero]
      refine wp_pure_op (ev) (by kernel_rfl) (hK _ _ ?_)
      simp only [Act.put, List.setIfInBounds_toArray, List.set_cons_succ, List.set_cons_zero]
      clear hK
      refine wpAny_ready (rs := [1]) (fuel := 3) (by kernel_rfl) (by simp) (AllReady.cons rfl (fun K' hK => ?_) AllReady.nil)
      rw [if_pos (by kernel_rfl)]
      simp only [List.getElem_toArray, List.getElem_cons_succ, List.getElem_cons_zero]
      refine wp_pure_op ((.slice (some ⟨gl, 0, none⟩) (bs.length + 32) (bs.length + 32))) (by kernel_rfl) (hK _ _ ?_)
      simp only [Act.put, List.setIfInBounds_toArray, List.set_cons_succ, List.set_cons_zero]
      clear hK
      refine wpAny_ready (rs := [3]) (fuel := 2) (by kernel_rfl) (by simp) (AllReady.cons rfl (fun K' hK => ?_) AllReady.nil)
      rw [if_pos (by kernel_rfl)]
      simp only [List.getElem_toArray, List.getElem_cons_succ, List.getElem_cons_zero]
      refine wp_call_op (f := 49) (args := #[(.slice (some ⟨gl, 0, none⟩) (bs.length + 32) (bs.length + 32)), ev]) (by kernel_rfl) (kept_walk bs gl w1 ev (hB.keep hw) hl hrow) (fun w4 hb => hK _ _ ?_)
      simp only [Act.put, List.setIfInBounds_toArray, List.set_cons_succ, List.set_cons_zero]
      clear hK
      replace rp0 := keep hb rp0
      replace rp1 := keep hb rp1
      replace hrow := keep hb hrow
      replace rl8 := keep hb rl8
      replace hw := Below.after hw hb
      clear hb
      refine wpAny_ready (rs := [4]) (fuel := 1) (by kernel_rfl) (by simp) (AllReady.cons rfl (fun K' hK => ?_) AllReady.nil)
      rw [if_pos (by kernel_rfl)]
      simp only [List.getElem_toArray, List.getElem_cons_succ, List.getElem_cons_zero]
      refine wp_store_row 26 _ _ rfl (w.heap.size + 1) s rfl rfl 26 _ rp1 hs.info (num_zero.size.trans hs.size.symm) hs.one (hK _ _ ?_)
      simp only [Act.put]
      clear hK
      replace rp0 := (setRow_other w4 (w.heap.size + 1) (w.heap.size) s (by first | assumption | omega)).trans rp0
      replace hrow := (setRow_other w4 (w.heap.size + 1) (gl) s (by first | assumption | omega)).trans hrow
      replace rl8 := (setRow_other w4 (w.heap.size + 1) (g8) s (by first | assumption | omega)).trans rl8
      replace rp1 := setRow_heap w4 (w.heap.size + 1) _ s _ _ rp1
      replace hw := below_setRow hw (show w.heap.size ≤ w.heap.size + 1 by first | assumption | omega) s
      generalize w4.setRow (w.heap.size + 1) s = w5 at *
      refine wpAny_ready (rs := [5]) (fuel := 0) (by kernel_rfl) (by simp) (AllReady.cons rfl (fun K' hK => ?_) AllReady.nil)
      rw [if_pos (by kernel_rfl)]
      simp only [List.getElem_toArray, List.getElem_cons_succ, List.getElem_cons_zero]
      refine wp_pure_op (.bool true) (by kernel_rfl) (hK _ _ ?_)
      simp only [Act.put, List.setIfInBounds_toArray, List.set_cons_succ, List.set_cons_zero]
      clear hK
      refine wpAny_done (by kernel_rfl) ?_ _
      go_wp2
      exact bodyPost_ret (v := .tuple #[.agg s, .bool true]) (results_row_slot Tryd.results21 _ _ (w.heap.size + 1) _ s _ _ (.bool true) rfl rp1 rfl Tryd.underlying26 rfl hs.info) rfl ⟨rfl, hw⟩
  · skip
    rw [if_pos (by kernel_rfl)]
    simp only [List.getElem_toArray, List.getElem_cons_succ, List.getElem_cons_zero]
    refine wp_pure_op ((.slice (some ⟨gl, 0, none⟩) (bs.length + 32) (bs.length + 32))) (by kernel_rfl) (hK _ _ ?_)
    simp only [Act.put, List.setIfInBounds_toArray, List.set_cons_succ, List.set_cons_zero]
    clear hK
    refine wpAny_ready (rs := [0, 2]) (fuel := 4) (by kernel_rfl) (by simp) (AllReady.cons rfl (fun K' hK => ?_) (AllReady.cons rfl (fun K' hK => ?_) AllReady.nil))
    · skip
      rw [if_pos (by kernel_rfl)]
      simp only [List.getElem_toArray, List.getElem_cons_zero]
      refine wp_load_row 26 _ rfl (g8) rfl 26 s (0, 0) _ rl8 Tryd.underlying26 rfl hs.info (hK _ _ ?_)
      simp only [Act.put, List.setIfInBounds_toArray, List.set_cons_succ, List.set_cons_zero]
      clear hK
      refine wpAny_ready (rs := [2]) (fuel := 3) (by kernel_rfl) (by simp) (AllReady.cons rfl (fun K' hK => ?_) AllReady.nil)
      rw [if_pos (by kernel_rfl)]
      simp only [List.getElem_toArray, List.getElem_cons_succ, List.getElem_cons_zero]
      refine wp_pure_op (ev) (by kernel_rfl) (hK _ _ ?_)
      simp only [Act.put, List.setIfInBounds_toArray, List.set_cons_succ, List.set_cons_zero]
      clear hK
      refine wpAny_ready (rs := [3]) (fuel := 2) (by kernel_rfl) (by simp) (AllReady.cons rfl (fun K' hK => ?_) AllReady.nil)
      rw [if_pos (by kernel_rfl)]
      simp only [List.getElem_toArray, List.getElem_cons_succ, List.getElem_cons_zero]
      refine wp_call_op (f := 49) (args := #[(.slice (some ⟨gl, 0, none⟩) (bs.length + 32) (bs.length + 32)), ev]) (by kernel_rfl) (kept_walk bs gl w1 ev (hB.keep hw) hl hrow) (fun w6 hb => hK _ _ ?_)
      simp only [Act.put, List.setIfInBounds_toArray, List.set_cons_succ, List.set_cons_zero]
      clear hK
      replace rp0 := keep hb rp0
      replace rp1 := keep hb rp1
      replace hrow := keep hb hrow
      replace rl8 := keep hb rl8
      replace hw := Below.after hw hb
      clear hb
      refine wpAny_ready (rs := [4]) (fuel := 1) (by kernel_rfl) (by simp) (AllReady.cons rfl (fun K' hK => ?_) AllReady.nil)
      rw [if_pos (by kernel_rfl)]
      simp only [List.getElem_toArray, List.getElem_cons_succ, List.getElem_cons_zero]
      refine wp_store_row 26 _ _ rfl (w.heap.size + 1) s rfl rfl 26 _ rp1 hs.info (num_zero.size.trans hs.size.symm) hs.one (hK _ _ ?_)
      simp only [Act.put]
      clear hK
      replace rp0 := (setRow_other w6 (w.heap.size + 1) (w.heap.size) s (by first | assumption | omega)).trans rp0
      replace hrow := (setRow_other w6 (w.heap.size + 1) (gl) s (by first | assumption | omega)).trans hrow
      replace rl8 := (setRow_other w6 (w.heap.size + 1) (g8) s (by first | assumption | omega)).trans rl8
      replace rp1 := setRow_heap w6 (w.heap.size + 1) _ s _ _ rp1
      replace hw := below_setRow hw (show w.heap.size ≤ w.heap.size + 1 by first | assumption | omega) s
      generalize w6.setRow (w.heap.size + 1) s = w7 at *
      refine wpAny_ready (rs := [5]) (fuel := 0) (by kernel_rfl) (by simp) (AllReady.cons rfl (fun K' hK => ?_) AllReady.nil)
      rw [if_pos (by kernel_rfl)]
      simp only [List.getElem_toArray, List.getElem_cons_succ, List.getElem_cons_zero]
      refine wp_pure_op (.bool true) (by kernel_rfl) (hK _ _ ?_)
      simp only [Act.put, List.setIfInBounds_toArray, List.set_cons_succ, List.set_cons_zero]
      clear hK
      refine wpAny_done (by kernel_rfl) ?_ _
      go_wp2
      exact bodyPost_ret (v := .tuple #[.agg s, .bool true]) (results_row_slot Tryd.results21 _ _ (w.heap.size + 1) _ s _ _ (.bool true) rfl rp1 rfl Tryd.underlying26 rfl hs.info) rfl ⟨rfl, hw⟩
    · skip
      rw [if_pos (by kernel_rfl)]
      simp only [List.getElem_toArray, List.getElem_cons_succ, List.getElem_cons_zero]
      refine wp_pure_op (ev) (by kernel_rfl) (hK _ _ ?_)
      simp only [Act.put, List.setIfInBounds_toArray, List.set_cons_succ, List.set_cons_zero]
      clear hK
      refine wpAny_ready (rs := [0, 3]) (fuel := 3) (by kernel_rfl) (by simp) (AllReady.cons rfl (fun K' hK => ?_) (AllReady.cons rfl (fun K' hK => ?_) AllReady.nil))
      · skip
        rw [if_pos (by kernel_rfl)]
        simp only [List.getElem_toArray, List.getElem_cons_zero]
        refine wp_load_row 26 _ rfl (g8) rfl 26 s (0, 0) _ rl8 Tryd.underlying26 rfl hs.info (hK _ _ ?_)
        simp only [Act.put, List.setIfInBounds_toArray, List.set_cons_succ, List.set_cons_zero]
        clear hK
        refine wpAny_ready (rs := [3]) (fuel := 2) (by kernel_rfl) (by simp) (AllReady.cons rfl (fun K' hK => ?_) AllReady.nil)
        rw [if_pos (by kernel_rfl)]
        simp only [List.getElem_toArray, List.getElem_cons_succ, List.getElem_cons_zero]
        refine wp_call_op (f := 49) (args := #[(.slice (some ⟨gl, 0, none⟩) (bs.length + 32) (bs.length + 32)), ev]) (by kernel_rfl) (kept_walk bs gl w1 ev (hB.keep hw) hl hrow) (fun w8 hb => hK _ _ ?_)
        simp only [Act.put, List.setIfInBounds_toArray, List.set_cons_succ, List.set_cons_zero]
        clear hK
        replace rp0 := keep hb rp0
        replace rp1 := keep hb rp1
        replace hrow := keep hb hrow
        replace rl8 := keep hb rl8
        replace hw := Below.after hw hb
        clear hb
        refine wpAny_ready (rs := [4]) (fuel := 1) (by kernel_rfl) (by simp) (AllReady.cons rfl (fun K' hK => ?_) AllReady.nil)
        rw [if_pos (by kernel_rfl)]
        simp only [List.getElem_toArray, List.getElem_cons_succ, List.getElem_cons_zero]
        refine wp_store_row 26 _ _ rfl (w.heap.size + 1) s rfl rfl 26 _ rp1 hs.info (num_zero.size.trans hs.size.symm) hs.one (hK _ _ ?_)
        simp only [Act.put]
        clear hK
        replace rp0 := (setRow_other w8 (w.heap.size + 1) (w.heap.size) s (by first | assumption | omega)).trans rp0
        replace hrow := (setRow_other w8 (w.heap.size + 1) (gl) s (by first | assumption | omega)).trans hrow
        replace rl8 := (setRow_other w8 (w.heap.size + 1) (g8) s (by first | assumption | omega)).trans rl8
        replace rp1 := setRow_heap w8 (w.heap.size + 1) _ s _ _ rp1
        replace hw := below_setRow hw (show w.heap.size ≤ w.heap.size + 1 by first | assumption | omega) s
        generalize w8.setRow (w.heap.size + 1) s = w9 at *
        refine wpAny_ready (rs := [5]) (fuel := 0) (by kernel_rfl) (by simp) (AllReady.cons rfl (fun K' hK => ?_) AllReady.nil)
        rw [if_pos (by kernel_rfl)]
        simp only [List.getElem_toArray, List.getElem_cons_succ, List.getElem_cons_zero]
        refine wp_pure_op (.bool true) (by kernel_rfl) (hK _ _ ?_)
        simp only [Act.put, List.setIfInBounds_toArray, List.set_cons_succ, List.set_cons_zero]
        clear hK
        refine wpAny_done (by kernel_rfl) ?_ _
        go_wp2
        exact bodyPost_ret (v := .tuple #[.agg s, .bool true]) (results_row_slot Tryd.results21 _ _ (w.heap.size + 1) _ s _ _ (.bool true) rfl rp1 rfl Tryd.underlying26 rfl hs.info) rfl ⟨rfl, hw⟩
      · skip
        rw [if_pos (by kernel_rfl)]
        simp only [List.getElem_toArray, List.getElem_cons_succ, List.getElem_cons_zero]
        refine wp_call_op (f := 49) (args := #[(.slice (some ⟨gl, 0, none⟩) (bs.length + 32) (bs.length + 32)), ev]) (by kernel_rfl) (kept_walk bs gl w1 ev (hB.keep hw) hl hrow) (fun w10 hb => hK _ _ ?_)
        simp only [Act.put, List.setIfInBounds_toArray, List.set_cons_succ, List.set_cons_zero]
        clear hK
        replace rp0 := keep hb rp0
        replace rp1 := keep hb rp1
        replace hrow := keep hb hrow
        replace rl8 := keep hb rl8
        replace hw := Below.after hw hb
        clear hb
        refine wpAny_ready (rs := [0]) (fuel := 2) (by kernel_rfl) (by simp) (AllReady.cons rfl (fun K' hK => ?_) AllReady.nil)
        rw [if_pos (by kernel_rfl)]
        simp only [List.getElem_toArray, List.getElem_cons_zero]
        refine wp_load_row 26 _ rfl (g8) rfl 26 s (0, 0) _ rl8 Tryd.underlying26 rfl hs.info (hK _ _ ?_)
        simp only [Act.put, List.setIfInBounds_toArray, List.set_cons_succ, List.set_cons_zero]
        clear hK
        refine wpAny_ready (rs := [4]) (fuel := 1) (by kernel_rfl) (by simp) (AllReady.cons rfl (fun K' hK => ?_) AllReady.nil)
        rw [if_pos (by kernel_rfl)]
        simp only [List.getElem_toArray, List.getElem_cons_succ, List.getElem_cons_zero]
        refine wp_store_row 26 _ _ rfl (w.heap.size + 1) s rfl rfl 26 _ rp1 hs.info (num_zero.size.trans hs.size.symm) hs.one (hK _ _ ?_)
        simp only [Act.put]
        clear hK
        replace rp0 := (setRow_other w10 (w.heap.size + 1) (w.heap.size) s (by first | assumption | omega)).trans rp0
        replace hrow := (setRow_other w10 (w.heap.size + 1) (gl) s (by first | assumption | omega)).trans hrow
        replace rl8 := (setRow_other w10 (w.heap.size + 1) (g8) s (by first | assumption | omega)).trans rl8
        replace rp1 := setRow_heap w10 (w.heap.size + 1) _ s _ _ rp1
        replace hw := below_setRow hw (show w.heap.size ≤ w.heap.size + 1 by first | assumption | omega) s
        generalize w10.setRow (w.heap.size + 1) s = w11 at *
        refine wpAny_ready (rs := [5]) (fuel := 0) (by kernel_rfl) (by simp) (AllReady.cons rfl (fun K' hK => ?_) AllReady.nil)
        rw [if_pos (by kernel_rfl)]
        simp only [List.getElem_toArray, List.getElem_cons_succ, List.getElem_cons_zero]
        refine wp_pure_op (.bool true) (by kernel_rfl) (hK _ _ ?_)
        simp only [Act.put, List.setIfInBounds_toArray, List.set_cons_succ, List.set_cons_zero]
        clear hK
        refine wpAny_done (by kernel_rfl) ?_ _
        go_wp2
        exact bodyPost_ret (v := .tuple #[.agg s, .bool true]) (results_row_slot Tryd.results21 _ _ (w.heap.size + 1) _ s _ _ (.bool true) rfl rp1 rfl Tryd.underlying26 rfl hs.info) rfl ⟨rfl, hw⟩
  · skip
    rw [if_pos (by kernel_rfl)]
    simp only [List.getElem_toArray, List.getElem_cons_succ, List.getElem_cons_zero]
    refine wp_pure_op (ev) (by kernel_rfl) (hK _ _ ?_)
    simp only [Act.put, List.setIfInBounds_toArray, List.set_cons_succ, List.set_cons_zero]
    clear hK
    refine wpAny_ready (rs := [0, 1]) (fuel := 4) (by kernel_rfl) (by simp) (AllReady.cons rfl (fun K' hK => ?_) (AllReady.cons rfl (fun K' hK => ?_) AllReady.nil))
    · skip
      rw [if_pos (by kernel_rfl)]
      simp only [List.getElem_toArray, List.getElem_cons_zero]
      refine wp_load_row 26 _ rfl (g8) rfl 26 s (0, 0) _ rl8 Tryd.underlying26 rfl hs.info (hK _ _ ?_)
      simp only [Act.put, List.setIfInBounds_toArray, List.set_cons_succ, List.set_cons_zero]
      clear hK
      refine wpAny_ready (rs := [1]) (fuel := 3) (by kernel_rfl) (by simp) (AllReady.cons rfl (fun K' hK => ?_) AllReady.nil)
      rw [if_pos (by kernel_rfl)]
      simp only [List.getElem_toArray, List.getElem_cons_succ, List.getElem_cons_zero]
      refine wp_pure_op ((.slice (some ⟨gl, 0, none⟩) (bs.length + 32) (bs.length + 32))) (by kernel_rfl) (hK _ _ ?_)
      simp only [Act.put, List.setIfInBounds_toArray, List.set_cons_succ, List.set_cons_zero]
      clear hK
      refine wpAny_ready (rs := [3]) (fuel := 2) (by kernel_rfl) (by simp) (AllReady.cons rfl (fun K' hK => ?_) AllReady.nil)
      rw [if_pos (by kernel_rfl)]
      simp only [List.getElem_toArray, List.getElem_cons_succ, List.getElem_cons_zero]
      refine wp_call_op (f := 49) (args := #[(.slice (some ⟨gl, 0, none⟩) (bs.length + 32) (bs.length + 32)), ev]) (by kernel_rfl) (kept_walk bs gl w1 ev (hB.keep hw) hl hrow) (fun w12 hb => hK _ _ ?_)
      simp only [Act.put, List.setIfInBounds_toArray, List.set_cons_succ, List.set_cons_zero]
      clear hK
      replace rp0 := keep hb rp0
      replace rp1 := keep hb rp1
      replace hrow := keep hb hrow
      replace rl8 := keep hb rl8
      replace hw := Below.after hw hb
      clear hb
      refine wpAny_ready (rs := [4]) (fuel := 1) (by kernel_rfl) (by simp) (AllReady.cons rfl (fun K' hK => ?_) AllReady.nil)
      rw [if_pos (by kernel_rfl)]
      simp only [List.getElem_toArray, List.getElem_cons_succ, List.getElem_cons_zero]
      refine wp_store_row 26 _ _ rfl (w.heap.size + 1) s rfl rfl 26 _ rp1 hs.info (num_zero.size.trans hs.size.symm) hs.one (hK _ _ ?_)
      simp only [Act.put]
      clear hK
      replace rp0 := (setRow_other w12 (w.heap.size + 1) (w.heap.size) s (by first | assumption | omega)).trans rp0
      replace hrow := (setRow_other w12 (w.heap.size + 1) (gl) s (by first | assumption | omega)).trans hrow
      replace rl8 := (setRow_other w12 (w.heap.size + 1) (g8) s (by first | assumption | omega)).trans rl8
      replace rp1 := setRow_heap w12 (w.heap.size + 1) _ s _ _ rp1
      replace hw := below_setRow hw (show w.heap.size ≤ w.heap.size + 1 by first | assumption | omega) s
      generalize w12.setRow (w.heap.size + 1) s = w13 at *
      refine wpAny_ready (rs := [5]) (fuel := 0) (by kernel_rfl) (by simp) (AllReady.cons rfl (fun K' hK => ?_) AllReady.nil)
      rw [if_pos (by kernel_rfl)]
      simp only [List.getElem_toArray, List.getElem_cons_succ, List.getElem_cons_zero]
      refine wp_pure_op (.bool true) (by kernel_rfl) (hK _ _ ?_)
      simp only [Act.put, List.setIfInBounds_toArray, List.set_cons_succ, List.set_cons_zero]
      clear hK
      refine wpAny_done (by kernel_rfl) ?_ _
      go_wp2
      exact bodyPost_ret (v := .tuple #[.agg s, .bool true]) (results_row_slot Tryd.results21 _ _ (w.heap.size + 1) _ s _ _ (.bool true) rfl rp1 rfl Tryd.underlying26 rfl hs.info) rfl ⟨rfl, hw⟩
    · skip
      rw [if_pos (by kernel_rfl)]
      simp only [List.getElem_toArray, List.getElem_cons_succ, List.getElem_cons_zero]
      refine wp_pure_op ((.slice (some ⟨gl, 0, none⟩) (bs.length + 32) (bs.length + 32))) (by kernel_rfl) (hK _ _ ?_)
      simp only [Act.put, List.setIfInBounds_toArray, List.set_cons_succ, List.set_cons_zero]
      clear hK
      refine wpAny_ready (rs := [0, 3]) (fuel := 3) (by kernel_rfl) (by simp) (AllReady.cons rfl (fun K' hK => ?_) (AllReady.cons rfl (fun K' hK => ?_) AllReady.nil))
      · skip
        rw [if_pos (by kernel_rfl)]
        simp only [List.getElem_toArray, List.getElem_cons_zero]
        refine wp_load_row 26 _ rfl (g8) rfl 26 s (0, 0) _ rl8 Tryd.underlying26 rfl hs.info (hK _ _ ?_)
        simp only [Act.put, List.setIfInBounds_toArray, List.set_cons_succ, List.set_cons_zero]
        clear hK
        refine wpAny_ready (rs := [3]) (fuel := 2) (by kernel_rfl) (by simp) (AllReady.cons rfl (fun K' hK => ?_) AllReady.nil)
        rw [if_pos (by kernel_rfl)]
        simp only [List.getElem_toArray, List.getElem_cons_succ, List.getElem_cons_zero]
        refine wp_call_op (f := 49) (args := #[(.slice (some ⟨gl, 0, none⟩) (bs.length + 32) (bs.length + 32)), ev]) (by kernel_rfl) (kept_walk bs gl w1 ev (hB.keep hw) hl hrow) (fun w14 hb => hK _ _ ?_)
        simp only [Act.put, List.setIfInBounds_toArray, List.set_cons_succ, List.set_cons_zero]
        clear hK
        replace rp0 := keep hb rp0
        replace rp1 := keep hb rp1
        replace hrow := keep hb hrow
        replace rl8 := keep hb rl8
        replace hw := Below.after hw hb
        clear hb
        refine wpAny_ready (rs := [4]) (fuel := 1) (by kernel_rfl) (by simp) (AllReady.cons rfl (fun K' hK => ?_) AllReady.nil)
        rw [if_pos (by kernel_rfl)]
        simp only [List.getElem_toArray, List.getElem_cons_succ, List.getElem_cons_zero]
        refine wp_store_row 26 _ _ rfl (w.heap.size + 1) s rfl rfl 26 _ rp1 hs.info (num_zero.size.trans hs.size.symm) hs.one (hK _ _ ?_)
        simp only [Act.put]
        clear hK
        replace rp0 := (setRow_other w14 (w.heap.size + 1) (w.heap.size) s (by first | assumption | omega)).trans rp0
        replace hrow := (setRow_other w14 (w.heap.size + 1) (gl) s (by first | assumption | omega)).trans hrow
        replace rl8 := (setRow_other w14 (w.heap.size + 1) (g8) s (by first | assumption | omega)).trans rl8
        replace rp1 := setRow_heap w14 (w.heap.size + 1) _ s _ _ rp1
        replace hw := below_setRow hw (show w.heap.size ≤ w.heap.size + 1 by first | assumption | omega) s
        generalize w14.setRow (w.heap.size + 1) s = w15 at *
        refine wpAny_ready (rs := [5]) (fuel := 0) (by kernel_rfl) (by simp) (AllReady.cons rfl (fun K' hK => ?_) AllReady.nil)
        rw [if_pos (by kernel_rfl)]
        simp only [List.getElem_toArray, List.getElem_cons_succ, List.getElem_cons_zero]
        refine wp_pure_op (.bool true) (by kernel_rfl) (hK _ _ ?_)
        simp only [Act.put, List.setIfInBounds_toArray, List.set_cons_succ, List.set_cons_zero]
        clear hK
        refine wpAny_done (by kernel_rfl) ?_ _
        go_wp2
        exact bodyPost_ret (v := .tuple #[.agg s, .bool true]) (results_row_slot Tryd.results21 _ _ (w.heap.size + 1) _ s _ _ (.bool true) rfl rp1 rfl Tryd.underlying26 rfl hs.info) rfl ⟨rfl, hw⟩
      · skip
        rw [if_pos (by kernel_rfl)]
        simp only [List.getElem_toArray, List.getElem_cons_succ, List.getElem_cons_zero]
        refine wp_call_op (f := 49) (args := #[(.slice (some ⟨gl, 0, none⟩) (bs.length + 32) (bs.length + 32)), ev]) (by kernel_rfl) (kept_walk bs gl w1 ev (hB.keep hw) hl hrow) (fun w16 hb => hK _ _ ?_)
        simp only [Act.put, List.setIfInBounds_toArray, List.set_cons_succ, List.set_cons_zero]
        clear hK
        replace rp0 := keep hb rp0
        replace rp1 := keep hb rp1
        replace hrow := keep hb hrow
        replace rl8 := keep hb rl8
        replace hw := Below.after hw hb
        clear hb
        refine wpAny_ready (rs := [0]) (fuel := 2) (by kernel_rfl) (by simp) (AllReady.cons rfl (fun K' hK => ?_) AllReady.nil)
        rw [if_pos (by kernel_rfl)]
        simp only [List.getElem_toArray, List.getElem_cons_zero]
        refine wp_load_row 26 _ rfl (g8) rfl 26 s (0, 0) _ rl8 Tryd.underlying26 rfl hs.info (hK _ _ ?_)
        simp only [Act.put, List.setIfInBounds_toArray, List.set_cons_succ, List.set_cons_zero]
        clear hK
        refine wpAny_ready (rs := [4]) (fuel := 1) (by kernel_rfl) (by simp) (AllReady.cons rfl (fun K' hK => ?_) AllReady.nil)
        rw [if_pos (by kernel_rfl)]
        simp only [List.getElem_toArray, List.getElem_cons_succ, List.getElem_cons_zero]
        refine wp_store_row 26 _ _ rfl (w.heap.size + 1) s rfl rfl 26 _ rp1 hs.info (num_zero.size.trans hs.size.symm) hs.one (hK _ _ ?_)
        simp only [Act.put]
        clear hK
        replace rp0 := (setRow_other w16 (w.heap.size + 1) (w.heap.size) s (by first | assumption | omega)).trans rp0
        replace hrow := (setRow_other w16 (w.heap.size + 1) (gl) s (by first | assumption | omega)).trans hrow
        replace rl8 := (setRow_other w16 (w.heap.size + 1) (g8) s (by first | assumption | omega)).trans rl8
        replace rp1 := setRow_heap w16 (w.heap.size + 1) _ s _ _ rp1
        replace hw := below_setRow hw (show w.heap.size ≤ w.heap.size + 1 by first | assumption | omega) s
        generalize w16.setRow (w.heap.size + 1) s = w17 at *
        refine wpAny_ready (rs := [5]) (fuel := 0) (by kernel_rfl) (by simp) (AllReady.cons rfl (fun K' hK => ?_) AllReady.nil)
        rw [if_pos (by kernel_rfl)]
        simp only [List.getElem_toArray, List.getElem_cons_succ, List.getElem_cons_zero]
        refine wp_pure_op (.bool true) (by kernel_rfl) (hK _ _ ?_)
        simp only [Act.put, List.setIfInBounds_toArray, List.set_cons_succ, List.set_cons_zero]
        clear hK
        refine wpAny_done (by kernel_rfl) ?_ _
        go_wp2
        exact bodyPost_ret (v := .tuple #[.agg s, .bool true]) (results_row_slot Tryd.results21 _ _ (w.heap.size + 1) _ s _ _ (.bool true) rfl rp1 rfl Tryd.underlying26 rfl hs.info) rfl ⟨rfl, hw⟩

end Go.Proofs.YtnohfbpmckhbbaaDoor

