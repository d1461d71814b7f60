import Derived.Test.YtgfhoabgbgddbaaDoorProg
import Derived.WalkKit
import Derived.WalkSpells
import Derived.WalkLawsBesides
import Derived.Lib.QuietBelow
import Derived.BigQuiet
import Derived.Test.YtgfhoabgbgddbaaDoorKa
import Derived.Test.YtgfhoabgbgddbaaDoorGj
namespace Go.Proofs.YtgfhoabgbgddbaaDoor
set_option maxRecDepth 100000
open Go.RowKit Go.Sort
attribute [local go_sem] setCell_drewN alloc_drewN


set_option maxHeartbeats 2000000 in
theorem a_invert {r : Array Value} {x : Int} (h : NumOf r x) : ∃ s, NumOf s (x ^ 57896044618658097711785492504343953926634992332820282019728792003956564819947) ∧ Gives 50 #[.agg r] (.agg s) := by
  obtain ⟨xa, xb, ha, hb, c1⟩ := a_climb h
  obtain ⟨x3, h3, c3⟩ := p_squares ha 5 (by decide) 57896044618658097711785492504343953926634992332820282019728792003956564819936 (by decide)
  obtain ⟨x4, h4, c4⟩ := p_mul h3 hb 57896044618658097711785492504343953926634992332820282019728792003956564819947 (by decide)
  refine ⟨x4, h4, fun w => ?_⟩
  go_enter Tryd.func50, Tryd.ntmps50
  go_wp2_with (first | (refine wpList_load_want rfl 27 _ rfl (w.heap.size) rfl 27 r (0, 0) _ (hp2_0 w _ _) Tryd.underlying27 rfl h.info ?_) | (refine wpList_load_want rfl 27 _ rfl (w.heap.size + 1) rfl 27 #[.int .u64 0, .int .u64 0, .int .u64 0, .int .u64 0, .int .u64 0] (0, 0) _ (hp2_1 w _ _) Tryd.underlying27 rfl num_zero.info ?_) | fail)
  have rp0 : ((w.alloc (.cells r 27)).alloc (.cells #[.int .u64 0, .int .u64 0, .int .u64 0, .int .u64 0, .int .u64 0] 27)).heap[w.heap.size]? = some (.cells r 27 (0, 0)) := hp2_0 w _ _
  have rp1 : ((w.alloc (.cells r 27)).alloc (.cells #[.int .u64 0, .int .u64 0, .int .u64 0, .int .u64 0, .int .u64 0] 27)).heap[w.heap.size + 1]? = some (.cells #[.int .u64 0, .int .u64 0, .int .u64 0, .int .u64 0, .int .u64 0] 27 (0, 0)) := hp2_1 w _ _
  have hw : Below w.heap.size w ((w.alloc (.cells r 27)).alloc (.cells #[.int .u64 0, .int .u64 0, .int .u64 0, .int .u64 0, .int .u64 0] 27)) := (((Below.refl _ _).alloc (Nat.le_refl _) _).alloc (by simp) _)
  generalize ((w.alloc (.cells r 27)).alloc (.cells #[.int .u64 0, .int .u64 0, .int .u64 0, .int .u64 0, .int .u64 0] 27)) = w0 at *
  refine (c1.at _).mono ?_
  rintro e w2 ⟨rfl, hb⟩
  replace rp0 := keep hb rp0
  replace rp1 := keep hb rp1
  replace hw := Below.after hw hb
  clear hb
  go_wp2_with (first | (refine wpList_store_row rfl 27 _ _ rfl (w2.heap.size) xa rfl rfl 27 #[.int .u64 0, .int .u64 0, .int .u64 0, .int .u64 0, .int .u64 0] (hp2_0 w2 _ _) ha.info (ha.fits rfl) ha.one ?_; rw [setRow_alloc_old _ _ _ _ (by simp), setRow_alloc_new _ _ _ _ _ _ (by simp)]) | (refine wpList_store_row rfl 27 _ _ rfl (w2.heap.size + 1) xb rfl rfl 27 #[.int .u64 0, .int .u64 0, .int .u64 0, .int .u64 0, .int .u64 0] (hp2_1 w2 _ _) hb.info (hb.fits rfl) hb.one ?_; rw [setRow_alloc_new _ _ _ _ _ _ (by simp)]) | fail | fail)
  have rl3 : ((w2.alloc (.cells xa 27)).alloc (.cells xb 27)).heap[w2.heap.size]? = some (.cells xa 27 (0, 0)) := hp2_0 w2 _ _
  have rl4 : ((w2.alloc (.cells xa 27)).alloc (.cells xb 27)).heap[w2.heap.size + 1]? = some (.cells xb 27 (0, 0)) := hp2_1 w2 _ _
  have hb : Below w2.heap.size w2 ((w2.alloc (.cells xa 27)).alloc (.cells xb 27)) := (((Below.refl _ _).alloc (Nat.le_refl _) _).alloc (by simp) _)
  generalize ((w2.alloc (.cells xa 27)).alloc (.cells xb 27)) = wa at *
  have yg3_0 := lt_of_row rp0
  have yg3_1 := lt_of_row rp1
  have yg3 := hw.size
  replace rp0 := keep hb rp0
  replace rp1 := keep hb rp1
  replace hw := Below.after hw hb
  clear hb
  generalize w2.heap.size = g3 at *
  clear w2
  have Hrp0 := keepr rp0
  have Hrp1 := keepr rp1
  have Hrl3 := keepr rl3
  have Hrl4 := keepr rl4
  refine wp_region_tail (C := fun w' => ∃ p : Regrown, w' = grow (redrawn wa p.d) p.os) 4 _ rfl rfl rfl (by kernel_rfl) (by kernel_rfl) (by kernel_rfl) (by kernel_rfl) ⟨⟨wa.drawn + 1, #[]⟩, by rw [grow_empty]; rfl⟩ ?_
  dsimp only [List.set, idle]
  refine wpQuiet_load_row rfl 27 _ rfl (g3) rfl 27 xa (0, 0) _ Hrl3.out Tryd.underlying27 rfl ha.info ?_
  simp only [Act.put, List.setIfInBounds_toArray, List.set_cons_succ, List.set_cons_zero]
  go_big_quiet_step (exact c3.re)
  refine wpQuiet_load_row rfl 27 _ rfl (g3 + 1) rfl 27 xb (0, 0) _ Hrl4.out Tryd.underlying27 rfl hb.info ?_
  simp only [Act.put, List.setIfInBounds_toArray, List.set_cons_succ, List.set_cons_zero]
  go_big_quiet_step (exact c4.re)
  refine wpQuiet_idle rfl rfl rfl ?_
  rintro _ ⟨p, rfl⟩
  have hb := below_regrown wa p.d p.os
  generalize grow (redrawn wa p.d) p.os = w5 at *
  replace rp0 := keep hb rp0
  replace rp1 := keep hb rp1
  replace rl3 := keep hb rl3
  replace rl4 := keep hb rl4
  replace hw := Below.after hw hb
  clear hb
  clear Hrp0 Hrp1 Hrl3 Hrl4
  go_wp2_with (first | (refine wpList_store_row rfl 27 _ _ rfl (w.heap.size + 1) x4 rfl rfl 27 _ rp1 h4.info (h4.fits rfl) h4.one ?_) | fail)
  exact bodyPost_ret (v := .agg x4) (results_cell_row Tryd.results50 _ _ (w.heap.size + 1) _ x4 _ _ rfl (setRow_heap _ _ _ _ _ _ rp1) Tryd.underlying27 rfl h4.info) rfl ⟨rfl, below_setRow hw (by omega) _⟩

end Go.Proofs.YtgfhoabgbgddbaaDoor

