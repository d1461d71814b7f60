import Derived.Test.YtnohfbpmckhbbaaDoorProg
import Derived.WalkKit
import Derived.WalkSpells
import Derived.WalkLawsBesides
import Derived.Lib.QuietBelow
import Derived.BigQuiet
import Derived.Test.YtnohfbpmckhbbaaDoorS0
import Derived.Test.YtnohfbpmckhbbaaDoorS6
import Derived.Test.YtnohfbpmckhbbaaDoorS3
import Derived.Test.YtnohfbpmckhbbaaDoorS2
import Derived.Test.YtnohfbpmckhbbaaDoorS4
import Derived.RegionTactic
import Derived.Test.YtnohfbpmckhbbaaDoorS5
namespace Go.Proofs.YtnohfbpmckhbbaaDoor
set_option maxRecDepth 100000
open Go.RowKit Go.Sort
attribute [local go_sem] setCell_drewN alloc_drewN


set_option maxHeartbeats 4000000 in
theorem refAdd_any (x0 x1 x2 x3 x4 x5 x6 x7 x8 x9 x10 x11 x12 x13 x14 x15 y0 y1 y2 y3 y4 y5 y6 y7 y8 y9 y10 y11 y12 y13 y14 y15 : Int) (l0 : 0 ≤ x0) (u0 : x0 < 65536) (l1 : 0 ≤ x1) (u1 : x1 < 65536) (l2 : 0 ≤ x2) (u2 : x2 < 65536) (l3 : 0 ≤ x3) (u3 : x3 < 65536) (l4 : 0 ≤ x4) (u4 : x4 < 65536) (l5 : 0 ≤ x5) (u5 : x5 < 65536) (l6 : 0 ≤ x6) (u6 : x6 < 65536) (l7 : 0 ≤ x7) (u7 : x7 < 65536) (l8 : 0 ≤ x8) (u8 : x8 < 65536) (l9 : 0 ≤ x9) (u9 : x9 < 65536) (l10 : 0 ≤ x10) (u10 : x10 < 65536) (l11 : 0 ≤ x11) (u11 : x11 < 65536) (l12 : 0 ≤ x12) (u12 : x12 < 65536) (l13 : 0 ≤ x13) (u13 : x13 < 65536) (l14 : 0 ≤ x14) (u14 : x14 < 65536) (l15 : 0 ≤ x15) (u15 : x15 < 65536) (ly0 : 0 ≤ y0) (uy0 : y0 < 65536) (ly1 : 0 ≤ y1) (uy1 : y1 < 65536) (ly2 : 0 ≤ y2) (uy2 : y2 < 65536) (ly3 : 0 ≤ y3) (uy3 : y3 < 65536) (ly4 : 0 ≤ y4) (uy4 : y4 < 65536) (ly5 : 0 ≤ y5) (uy5 : y5 < 65536) (ly6 : 0 ≤ y6) (uy6 : y6 < 65536) (ly7 : 0 ≤ y7) (uy7 : y7 < 65536) (ly8 : 0 ≤ y8) (uy8 : y8 < 65536) (ly9 : 0 ≤ y9) (uy9 : y9 < 65536) (ly10 : 0 ≤ y10) (uy10 : y10 < 65536) (ly11 : 0 ≤ y11) (uy11 : y11 < 65536) (ly12 : 0 ≤ y12) (uy12 : y12 < 65536) (ly13 : 0 ≤ y13) (uy13 : y13 < 65536) (ly14 : 0 ≤ y14) (uy14 : y14 < 65536) (ly15 : 0 ≤ y15) (uy15 : y15 < 65536) (w : World) :
    Calls Tryd.prog 25 #[.agg #[.int .u64 x0, .int .u64 x1, .int .u64 x2, .int .u64 x3, .int .u64 x4, .int .u64 x5, .int .u64 x6, .int .u64 x7, .int .u64 x8, .int .u64 x9, .int .u64 x10, .int .u64 x11, .int .u64 x12, .int .u64 x13, .int .u64 x14, .int .u64 x15], .agg #[.int .u64 y0, .int .u64 y1, .int .u64 y2, .int .u64 y3, .int .u64 y4, .int .u64 y5, .int .u64 y6, .int .u64 y7, .int .u64 y8, .int .u64 y9, .int .u64 y10, .int .u64 y11, .int .u64 y12, .int .u64 y13, .int .u64 y14, .int .u64 y15]] w fun e w' => e = .returned (.agg #[.int .u64 (dg ((v16 x0 x1 x2 x3 x4 x5 x6 x7 x8 x9 x10 x11 x12 x13 x14 x15 + v16 y0 y1 y2 y3 y4 y5 y6 y7 y8 y9 y10 y11 y12 y13 y14 y15) % prm) 0), .int .u64 (dg ((v16 x0 x1 x2 x3 x4 x5 x6 x7 x8 x9 x10 x11 x12 x13 x14 x15 + v16 y0 y1 y2 y3 y4 y5 y6 y7 y8 y9 y10 y11 y12 y13 y14 y15) % prm) 1), .int .u64 (dg ((v16 x0 x1 x2 x3 x4 x5 x6 x7 x8 x9 x10 x11 x12 x13 x14 x15 + v16 y0 y1 y2 y3 y4 y5 y6 y7 y8 y9 y10 y11 y12 y13 y14 y15) % prm) 2), .int .u64 (dg ((v16 x0 x1 x2 x3 x4 x5 x6 x7 x8 x9 x10 x11 x12 x13 x14 x15 + v16 y0 y1 y2 y3 y4 y5 y6 y7 y8 y9 y10 y11 y12 y13 y14 y15) % prm) 3), .int .u64 (dg ((v16 x0 x1 x2 x3 x4 x5 x6 x7 x8 x9 x10 x11 x12 x13 x14 x15 + v16 y0 y1 y2 y3 y4 y5 y6 y7 y8 y9 y10 y11 y12 y13 y14 y15) % prm) 4), .int .u64 (dg ((v16 x0 x1 x2 x3 x4 x5 x6 x7 x8 x9 x10 x11 x12 x13 x14 x15 + v16 y0 y1 y2 y3 y4 y5 y6 y7 y8 y9 y10 y11 y12 y13 y14 y15) % prm) 5), .int .u64 (dg ((v16 x0 x1 x2 x3 x4 x5 x6 x7 x8 x9 x10 x11 x12 x13 x14 x15 + v16 y0 y1 y2 y3 y4 y5 y6 y7 y8 y9 y10 y11 y12 y13 y14 y15) % prm) 6), .int .u64 (dg ((v16 x0 x1 x2 x3 x4 x5 x6 x7 x8 x9 x10 x11 x12 x13 x14 x15 + v16 y0 y1 y2 y3 y4 y5 y6 y7 y8 y9 y10 y11 y12 y13 y14 y15) % prm) 7), .int .u64 (dg ((v16 x0 x1 x2 x3 x4 x5 x6 x7 x8 x9 x10 x11 x12 x13 x14 x15 + v16 y0 y1 y2 y3 y4 y5 y6 y7 y8 y9 y10 y11 y12 y13 y14 y15) % prm) 8), .int .u64 (dg ((v16 x0 x1 x2 x3 x4 x5 x6 x7 x8 x9 x10 x11 x12 x13 x14 x15 + v16 y0 y1 y2 y3 y4 y5 y6 y7 y8 y9 y10 y11 y12 y13 y14 y15) % prm) 9), .int .u64 (dg ((v16 x0 x1 x2 x3 x4 x5 x6 x7 x8 x9 x10 x11 x12 x13 x14 x15 + v16 y0 y1 y2 y3 y4 y5 y6 y7 y8 y9 y10 y11 y12 y13 y14 y15) % prm) 10), .int .u64 (dg ((v16 x0 x1 x2 x3 x4 x5 x6 x7 x8 x9 x10 x11 x12 x13 x14 x15 + v16 y0 y1 y2 y3 y4 y5 y6 y7 y8 y9 y10 y11 y12 y13 y14 y15) % prm) 11), .int .u64 (dg ((v16 x0 x1 x2 x3 x4 x5 x6 x7 x8 x9 x10 x11 x12 x13 x14 x15 + v16 y0 y1 y2 y3 y4 y5 y6 y7 y8 y9 y10 y11 y12 y13 y14 y15) % prm) 12), .int .u64 (dg ((v16 x0 x1 x2 x3 x4 x5 x6 x7 x8 x9 x10 x11 x12 x13 x14 x15 + v16 y0 y1 y2 y3 y4 y5 y6 y7 y8 y9 y10 y11 y12 y13 y14 y15) % prm) 13), .int .u64 (dg ((v16 x0 x1 x2 x3 x4 x5 x6 x7 x8 x9 x10 x11 x12 x13 x14 x15 + v16 y0 y1 y2 y3 y4 y5 y6 y7 y8 y9 y10 y11 y12 y13 y14 y15) % prm) 14), .int .u64 (dg ((v16 x0 x1 x2 x3 x4 x5 x6 x7 x8 x9 x10 x11 x12 x13 x14 x15 + v16 y0 y1 y2 y3 y4 y5 y6 y7 y8 y9 y10 y11 y12 y13 y14 y15) % prm) 15)]) ∧ Below w.heap.size w w' := by
  have c := fun W => settle_any (x0 + y0) (x1 + y1) (x2 + y2) (x3 + y3) (x4 + y4) (x5 + y5) (x6 + y6) (x7 + y7) (x8 + y8) (x9 + y9) (x10 + y10) (x11 + y11) (x12 + y12) (x13 + y13) (x14 + y14) (x15 + y15) (by omega) (by omega) (by omega) (by omega) (by omega) (by omega) (by omega) (by omega) (by omega) (by omega) (by omega) (by omega) (by omega) (by omega) (by omega) (by omega) (by omega) (by omega) (by omega) (by omega) (by omega) (by omega) (by omega) (by omega) (by omega) (by omega) (by omega) (by omega) (by omega) (by omega) (by omega) (by omega) W
  have ev : v16 (x0 + y0) (x1 + y1) (x2 + y2) (x3 + y3) (x4 + y4) (x5 + y5) (x6 + y6) (x7 + y7) (x8 + y8) (x9 + y9) (x10 + y10) (x11 + y11) (x12 + y12) (x13 + y13) (x14 + y14) (x15 + y15) = v16 x0 x1 x2 x3 x4 x5 x6 x7 x8 x9 x10 x11 x12 x13 x14 x15 + v16 y0 y1 y2 y3 y4 y5 y6 y7 y8 y9 y10 y11 y12 y13 y14 y15 := by simp only [v16, valL]; omega
  rw [ev] at c
  have C := hide c
  clear c ev
  generalize (v16 x0 x1 x2 x3 x4 x5 x6 x7 x8 x9 x10 x11 x12 x13 x14 x15 + v16 y0 y1 y2 y3 y4 y5 y6 y7 y8 y9 y10 y11 y12 y13 y14 y15) % prm = q at *
  go_enter Tryd.func25, Tryd.ntmps25
  go_wp2
  refine wp_loop_rounds 17 ?_
  rw [rounds_succ]
  go_wp2
  refine wp_region_tail (C := fun w' => ∃ n, w' = World.drewN _ n) 11 _ rfl rfl rfl (by kernel_rfl) (by kernel_rfl) (by kernel_rfl) (by kernel_rfl) ⟨1, rfl⟩ ?_
  dsimp only [List.set, idle]
  repeat (go_big_quiet_step (fail))
  first | refine wpQuiet_nil ?_ | refine wpQuiet_idle rfl rfl rfl ?_
  rintro _ ⟨n0, rfl⟩
  go_wp2
  rw [rounds_succ]
  go_wp2
  refine wp_region_tail (C := fun w' => ∃ n, w' = World.drewN _ n) 11 _ rfl rfl rfl (by kernel_rfl) (by kernel_rfl) (by kernel_rfl) (by kernel_rfl) ⟨1, rfl⟩ ?_
  dsimp only [List.set, idle]
  repeat (go_big_quiet_step (fail))
  first | refine wpQuiet_nil ?_ | refine wpQuiet_idle rfl rfl rfl ?_
  rintro _ ⟨n1, rfl⟩
  go_wp2
  rw [rounds_succ]
  go_wp2
  refine wp_region_tail (C := fun w' => ∃ n, w' = World.drewN _ n) 11 _ rfl rfl rfl (by kernel_rfl) (by kernel_rfl) (by kernel_rfl) (by kernel_rfl) ⟨1, rfl⟩ ?_
  dsimp only [List.set, idle]
  repeat (go_big_quiet_step (fail))
  first | refine wpQuiet_nil ?_ | refine wpQuiet_idle rfl rfl rfl ?_
  rintro _ ⟨n2, rfl⟩
  go_wp2
  rw [rounds_succ]
  go_wp2
  refine wp_region_tail (C := fun w' => ∃ n, w' = World.drewN _ n) 11 _ rfl rfl rfl (by kernel_rfl) (by kernel_rfl) (by kernel_rfl) (by kernel_rfl) ⟨1, rfl⟩ ?_
  dsimp only [List.set, idle]
  repeat (go_big_quiet_step (fail))
  first | refine wpQuiet_nil ?_ | refine wpQuiet_idle rfl rfl rfl ?_
  rintro _ ⟨n3, rfl⟩
  go_wp2
  rw [rounds_succ]
  go_wp2
  refine wp_region_tail (C := fun w' => ∃ n, w' = World.drewN _ n) 11 _ rfl rfl rfl (by kernel_rfl) (by kernel_rfl) (by kernel_rfl) (by kernel_rfl) ⟨1, rfl⟩ ?_
  dsimp only [List.set, idle]
  repeat (go_big_quiet_step (fail))
  first | refine wpQuiet_nil ?_ | refine wpQuiet_idle rfl rfl rfl ?_
  rintro _ ⟨n4, rfl⟩
  go_wp2
  rw [rounds_succ]
  go_wp2
  refine wp_region_tail (C := fun w' => ∃ n, w' = World.drewN _ n) 11 _ rfl rfl rfl (by kernel_rfl) (by kernel_rfl) (by kernel_rfl) (by kernel_rfl) ⟨1, rfl⟩ ?_
  dsimp only [List.set, idle]
  repeat (go_big_quiet_step (fail))
  first | refine wpQuiet_nil ?_ | refine wpQuiet_idle rfl rfl rfl ?_
  rintro _ ⟨n5, rfl⟩
  go_wp2
  rw [rounds_succ]
  go_wp2
  refine wp_region_tail (C := fun w' => ∃ n, w' = World.drewN _ n) 11 _ rfl rfl rfl (by kernel_rfl) (by kernel_rfl) (by kernel_rfl) (by kernel_rfl) ⟨1, rfl⟩ ?_
  dsimp only [List.set, idle]
  repeat (go_big_quiet_step (fail))
  first | refine wpQuiet_nil ?_ | refine wpQuiet_idle rfl rfl rfl ?_
  rintro _ ⟨n6, rfl⟩
  go_wp2
  rw [rounds_succ]
  go_wp2
  refine wp_region_tail (C := fun w' => ∃ n, w' = World.drewN _ n) 11 _ rfl rfl rfl (by kernel_rfl) (by kernel_rfl) (by kernel_rfl) (by kernel_rfl) ⟨1, rfl⟩ ?_
  dsimp only [List.set, idle]
  repeat (go_big_quiet_step (fail))
  first | refine wpQuiet_nil ?_ | refine wpQuiet_idle rfl rfl rfl ?_
  rintro _ ⟨n7, rfl⟩
  go_wp2
  rw [rounds_succ]
  go_wp2
  refine wp_region_tail (C := fun w' => ∃ n, w' = World.drewN _ n) 11 _ rfl rfl rfl (by kernel_rfl) (by kernel_rfl) (by kernel_rfl) (by kernel_rfl) ⟨1, rfl⟩ ?_
  dsimp only [List.set, idle]
  repeat (go_big_quiet_step (fail))
  first | refine wpQuiet_nil ?_ | refine wpQuiet_idle rfl rfl rfl ?_
  rintro _ ⟨n8, rfl⟩
  go_wp2
  rw [rounds_succ]
  go_wp2
  refine wp_region_tail (C := fun w' => ∃ n, w' = World.drewN _ n) 11 _ rfl rfl rfl (by kernel_rfl) (by kernel_rfl) (by kernel_rfl) (by kernel_rfl) ⟨1, rfl⟩ ?_
  dsimp only [List.set, idle]
  repeat (go_big_quiet_step (fail))
  first | refine wpQuiet_nil ?_ | refine wpQuiet_idle rfl rfl rfl ?_
  rintro _ ⟨n9, rfl⟩
  go_wp2
  rw [rounds_succ]
  go_wp2
  refine wp_region_tail (C := fun w' => ∃ n, w' = World.drewN _ n) 11 _ rfl rfl rfl (by kernel_rfl) (by kernel_rfl) (by kernel_rfl) (by kernel_rfl) ⟨1, rfl⟩ ?_
  dsimp only [List.set, idle]
  repeat (go_big_quiet_step (fail))
  first | refine wpQuiet_nil ?_ | refine wpQuiet_idle rfl rfl rfl ?_
  rintro _ ⟨n10, rfl⟩
  go_wp2
  rw [rounds_succ]
  go_wp2
  refine wp_region_tail (C := fun w' => ∃ n, w' = World.drewN _ n) 11 _ rfl rfl rfl (by kernel_rfl) (by kernel_rfl) (by kernel_rfl) (by kernel_rfl) ⟨1, rfl⟩ ?_
  dsimp only [List.set, idle]
  repeat (go_big_quiet_step (fail))
  first | refine wpQuiet_nil ?_ | refine wpQuiet_idle rfl rfl rfl ?_
  rintro _ ⟨n11, rfl⟩
  go_wp2
  rw [rounds_succ]
  go_wp2
  refine wp_region_tail (C := fun w' => ∃ n, w' = World.drewN _ n) 11 _ rfl rfl rfl (by kernel_rfl) (by kernel_rfl) (by kernel_rfl) (by kernel_rfl) ⟨1, rfl⟩ ?_
  dsimp only [List.set, idle]
  repeat (go_big_quiet_step (fail))
  first | refine wpQuiet_nil ?_ | refine wpQuiet_idle rfl rfl rfl ?_
  rintro _ ⟨n12, rfl⟩
  go_wp2
  rw [rounds_succ]
  go_wp2
  refine wp_region_tail (C := fun w' => ∃ n, w' = World.drewN _ n) 11 _ rfl rfl rfl (by kernel_rfl) (by kernel_rfl) (by kernel_rfl) (by kernel_rfl) ⟨1, rfl⟩ ?_
  dsimp only [List.set, idle]
  repeat (go_big_quiet_step (fail))
  first | refine wpQuiet_nil ?_ | refine wpQuiet_idle rfl rfl rfl ?_
  rintro _ ⟨n13, rfl⟩
  go_wp2
  rw [rounds_succ]
  go_wp2
  refine wp_region_tail (C := fun w' => ∃ n, w' = World.drewN _ n) 11 _ rfl rfl rfl (by kernel_rfl) (by kernel_rfl) (by kernel_rfl) (by kernel_rfl) ⟨1, rfl⟩ ?_
  dsimp only [List.set, idle]
  repeat (go_big_quiet_step (fail))
  first | refine wpQuiet_nil ?_ | refine wpQuiet_idle rfl rfl rfl ?_
  rintro _ ⟨n14, rfl⟩
  go_wp2
  rw [rounds_succ]
  go_wp2
  refine wp_region_tail (C := fun w' => ∃ n, w' = World.drewN _ n) 11 _ rfl rfl rfl (by kernel_rfl) (by kernel_rfl) (by kernel_rfl) (by kernel_rfl) ⟨1, rfl⟩ ?_
  dsimp only [List.set, idle]
  repeat (go_big_quiet_step (fail))
  first | refine wpQuiet_nil ?_ | refine wpQuiet_idle rfl rfl rfl ?_
  rintro _ ⟨n15, rfl⟩
  go_wp2
  rw [rounds_succ]
  go_wp2_with (first | (refine wpList_load_row rfl 28 _ rfl (w.heap.size + 1 + 1 + 1) rfl 28 #[.int .u64 (x0 + y0), .int .u64 (x1 + y1), .int .u64 (x2 + y2), .int .u64 (x3 + y3), .int .u64 (x4 + y4), .int .u64 (x5 + y5), .int .u64 (x6 + y6), .int .u64 (x7 + y7), .int .u64 (x8 + y8), .int .u64 (x9 + y9), .int .u64 (x10 + y10), .int .u64 (x11 + y11), .int .u64 (x12 + y12), .int .u64 (x13 + y13), .int .u64 (x14 + y14), .int .u64 (x15 + y15)] (0, 0) _ (by rw [World.heap_drewN, hp4_3]) Tryd.underlying28 rfl (by kernel_rfl) ?_) | fail)
  refine (C.out _).mono ?_
  rintro e w1 ⟨rfl, hb⟩
  have rZ : w1.heap[w.heap.size + 1 + 1]? = some (.cells #[.int .u64 0, .int .u64 0, .int .u64 0, .int .u64 0, .int .u64 0, .int .u64 0, .int .u64 0, .int .u64 0, .int .u64 0, .int .u64 0, .int .u64 0, .int .u64 0, .int .u64 0, .int .u64 0, .int .u64 0, .int .u64 0] 30 (0, 0)) := (hb.block _ (by simp)).trans (by rw [World.heap_drewN, hp4_2])
  have hbw : Below w.heap.size w w1 := (below_drN (((((Below.refl _ _).alloc (Nat.le_refl _) _).alloc (by simp) _).alloc (by simp; omega) _).alloc (by simp; omega) _) _).trans (hb.mono (by simp; omega))
  clear hb
  go_wp2_with (first | (refine wpList_store_row rfl 30 _ _ rfl (w.heap.size + 1 + 1) (rd q) rfl rfl 30 _ rZ (rd_info q) rfl (rd_one q) ?_) | fail)
  exact bodyPost_ret (v := .agg (rd q)) (results_cell_row Tryd.results25 _ _ (w.heap.size + 1 + 1) _ (rd q) _ _ rfl (setRow_heap _ _ _ _ _ _ rZ) Tryd.underlying30 rfl (rd_info q)) rfl ⟨rfl, below_setRow hbw (by omega) _⟩
theorem v16_dg (m : Int) (h : inP m) : v16 (dg m 0) (dg m 1) (dg m 2) (dg m 3) (dg m 4) (dg m 5) (dg m 6) (dg m 7) (dg m 8) (dg m 9) (dg m 10) (dg m 11) (dg m 12) (dg m 13) (dg m 14) (dg m 15) = m := by
  obtain ⟨h0, h1⟩ := h
  rw [← sumN_v16]
  exact sumN_dg m h0 (by unfold prm at h1; omega)
theorem r_add {m q : Int} (h : inP m) (g : inP q) : Gives 25 #[.agg (rd m), .agg (rd q)] (.agg (rd ((m + q) % prm))) := fun W => by
  have c := refAdd_any (dg m 0) (dg m 1) (dg m 2) (dg m 3) (dg m 4) (dg m 5) (dg m 6) (dg m 7) (dg m 8) (dg m 9) (dg m 10) (dg m 11) (dg m 12) (dg m 13) (dg m 14) (dg m 15) (dg q 0) (dg q 1) (dg q 2) (dg q 3) (dg q 4) (dg q 5) (dg q 6) (dg q 7) (dg q 8) (dg q 9) (dg q 10) (dg q 11) (dg q 12) (dg q 13) (dg q 14) (dg q 15) (dg_bd m 0).1 (dg_bd m 0).2 (dg_bd m 1).1 (dg_bd m 1).2 (dg_bd m 2).1 (dg_bd m 2).2 (dg_bd m 3).1 (dg_bd m 3).2 (dg_bd m 4).1 (dg_bd m 4).2 (dg_bd m 5).1 (dg_bd m 5).2 (dg_bd m 6).1 (dg_bd m 6).2 (dg_bd m 7).1 (dg_bd m 7).2 (dg_bd m 8).1 (dg_bd m 8).2 (dg_bd m 9).1 (dg_bd m 9).2 (dg_bd m 10).1 (dg_bd m 10).2 (dg_bd m 11).1 (dg_bd m 11).2 (dg_bd m 12).1 (dg_bd m 12).2 (dg_bd m 13).1 (dg_bd m 13).2 (dg_bd m 14).1 (dg_bd m 14).2 (dg_bd m 15).1 (dg_bd m 15).2 (dg_bd q 0).1 (dg_bd q 0).2 (dg_bd q 1).1 (dg_bd q 1).2 (dg_bd q 2).1 (dg_bd q 2).2 (dg_bd q 3).1 (dg_bd q 3).2 (dg_bd q 4).1 (dg_bd q 4).2 (dg_bd q 5).1 (dg_bd q 5).2 (dg_bd q 6).1 (dg_bd q 6).2 (dg_bd q 7).1 (dg_bd q 7).2 (dg_bd q 8).1 (dg_bd q 8).2 (dg_bd q 9).1 (dg_bd q 9).2 (dg_bd q 10).1 (dg_bd q 10).2 (dg_bd q 11).1 (dg_bd q 11).2 (dg_bd q 12).1 (dg_bd q 12).2 (dg_bd q 13).1 (dg_bd q 13).2 (dg_bd q 14).1 (dg_bd q 14).2 (dg_bd q 15).1 (dg_bd q 15).2 W
  rw [v16_dg m h, v16_dg q g] at c
  exact c

end Go.Proofs.YtnohfbpmckhbbaaDoor


namespace Go.Proofs.YtnohfbpmckhbbaaDoor
set_option maxRecDepth 100000
open Go.RowKit Go.Sort
attribute [local go_sem] setCell_drewN alloc_drewN


theorem r_minusP {m : Int} (h : inP m) : Gives 52 #[.agg #[.int .u64 65517, .int .u64 65535, .int .u64 65535, .int .u64 65535, .int .u64 65535, .int .u64 65535, .int .u64 65535, .int .u64 65535, .int .u64 65535, .int .u64 65535, .int .u64 65535, .int .u64 65535, .int .u64 65535, .int .u64 65535, .int .u64 65535, .int .u64 32767], .agg (rd m)] (.agg (rd (prm - m))) := fun W => by
  have e : v16 65517 65535 65535 65535 65535 65535 65535 65535 65535 65535 65535 65535 65535 65535 65535 32767 = prm := by decide
  have c := minus_dg 65517 65535 65535 65535 65535 65535 65535 65535 65535 65535 65535 65535 65535 65535 65535 32767 (dg m 0) (dg m 1) (dg m 2) (dg m 3) (dg m 4) (dg m 5) (dg m 6) (dg m 7) (dg m 8) (dg m 9) (dg m 10) (dg m 11) (dg m 12) (dg m 13) (dg m 14) (dg m 15) (by decide) (by decide) (by decide) (by decide) (by decide) (by decide) (by decide) (by decide) (by decide) (by decide) (by decide) (by decide) (by decide) (by decide) (by decide) (by decide) (by decide) (by decide) (by decide) (by decide) (by decide) (by decide) (by decide) (by decide) (by decide) (by decide) (by decide) (by decide) (by decide) (by decide) (by decide) (by decide) (dg_bd m 0).1 (dg_bd m 0).2 (dg_bd m 1).1 (dg_bd m 1).2 (dg_bd m 2).1 (dg_bd m 2).2 (dg_bd m 3).1 (dg_bd m 3).2 (dg_bd m 4).1 (dg_bd m 4).2 (dg_bd m 5).1 (dg_bd m 5).2 (dg_bd m 6).1 (dg_bd m 6).2 (dg_bd m 7).1 (dg_bd m 7).2 (dg_bd m 8).1 (dg_bd m 8).2 (dg_bd m 9).1 (dg_bd m 9).2 (dg_bd m 10).1 (dg_bd m 10).2 (dg_bd m 11).1 (dg_bd m 11).2 (dg_bd m 12).1 (dg_bd m 12).2 (dg_bd m 13).1 (dg_bd m 13).2 (dg_bd m 14).1 (dg_bd m 14).2 (dg_bd m 15).1 (dg_bd m 15).2 (by rw [v16_dg m h, e]; exact Int.le_of_lt h.2) W
  rw [v16_dg m h, e] at c
  exact c
theorem r_settleP {m : Int} (h : inP m) : Gives 42 #[.agg (rd (prm - m))] (.agg (rd (-m % prm))) := fun W => by
  have e : v16 (dg (prm - m) 0) (dg (prm - m) 1) (dg (prm - m) 2) (dg (prm - m) 3) (dg (prm - m) 4) (dg (prm - m) 5) (dg (prm - m) 6) (dg (prm - m) 7) (dg (prm - m) 8) (dg (prm - m) 9) (dg (prm - m) 10) (dg (prm - m) 11) (dg (prm - m) 12) (dg (prm - m) 13) (dg (prm - m) 14) (dg (prm - m) 15) = prm - m := by
    rw [← sumN_v16]
    exact sumN_dg _ (by have := h.2; omega) (by have := h.1; unfold prm; omega)
  have c := settle_any (dg (prm - m) 0) (dg (prm - m) 1) (dg (prm - m) 2) (dg (prm - m) 3) (dg (prm - m) 4) (dg (prm - m) 5) (dg (prm - m) 6) (dg (prm - m) 7) (dg (prm - m) 8) (dg (prm - m) 9) (dg (prm - m) 10) (dg (prm - m) 11) (dg (prm - m) 12) (dg (prm - m) 13) (dg (prm - m) 14) (dg (prm - m) 15) (dg_bd (prm - m) 0).1 (Int.le_trans (Int.le_of_lt (dg_bd (prm - m) 0).2) (by decide)) (dg_bd (prm - m) 1).1 (Int.le_trans (Int.le_of_lt (dg_bd (prm - m) 1).2) (by decide)) (dg_bd (prm - m) 2).1 (Int.le_trans (Int.le_of_lt (dg_bd (prm - m) 2).2) (by decide)) (dg_bd (prm - m) 3).1 (Int.le_trans (Int.le_of_lt (dg_bd (prm - m) 3).2) (by decide)) (dg_bd (prm - m) 4).1 (Int.le_trans (Int.le_of_lt (dg_bd (prm - m) 4).2) (by decide)) (dg_bd (prm - m) 5).1 (Int.le_trans (Int.le_of_lt (dg_bd (prm - m) 5).2) (by decide)) (dg_bd (prm - m) 6).1 (Int.le_trans (Int.le_of_lt (dg_bd (prm - m) 6).2) (by decide)) (dg_bd (prm - m) 7).1 (Int.le_trans (Int.le_of_lt (dg_bd (prm - m) 7).2) (by decide)) (dg_bd (prm - m) 8).1 (Int.le_trans (Int.le_of_lt (dg_bd (prm - m) 8).2) (by decide)) (dg_bd (prm - m) 9).1 (Int.le_trans (Int.le_of_lt (dg_bd (prm - m) 9).2) (by decide)) (dg_bd (prm - m) 10).1 (Int.le_trans (Int.le_of_lt (dg_bd (prm - m) 10).2) (by decide)) (dg_bd (prm - m) 11).1 (Int.le_trans (Int.le_of_lt (dg_bd (prm - m) 11).2) (by decide)) (dg_bd (prm - m) 12).1 (Int.le_trans (Int.le_of_lt (dg_bd (prm - m) 12).2) (by decide)) (dg_bd (prm - m) 13).1 (Int.le_trans (Int.le_of_lt (dg_bd (prm - m) 13).2) (by decide)) (dg_bd (prm - m) 14).1 (Int.le_trans (Int.le_of_lt (dg_bd (prm - m) 14).2) (by decide)) (dg_bd (prm - m) 15).1 (Int.le_trans (Int.le_of_lt (dg_bd (prm - m) 15).2) (by decide)) W
  have e2 : (prm - m) % prm = -m % prm := by rw [show prm - m = -m + prm * 1 by omega, Int.add_mul_emod_self_left]
  rw [e, e2] at c
  exact c
theorem rd_agg (m : Int) : Value.agg (rd m) = .agg #[.int .u64 (dg (m) 0), .int .u64 (dg (m) 1), .int .u64 (dg (m) 2), .int .u64 (dg (m) 3), .int .u64 (dg (m) 4), .int .u64 (dg (m) 5), .int .u64 (dg (m) 6), .int .u64 (dg (m) 7), .int .u64 (dg (m) 8), .int .u64 (dg (m) 9), .int .u64 (dg (m) 10), .int .u64 (dg (m) 11), .int .u64 (dg (m) 12), .int .u64 (dg (m) 13), .int .u64 (dg (m) 14), .int .u64 (dg (m) 15)] := rfl
set_option maxHeartbeats 2000000 in
theorem r_neg {m : Int} (h : inP m) : Gives 27 #[.agg (rd m)] (.agg (rd (-m % prm))) := by
  have c1 := r_minusP h
  have c2 := r_settleP h
  generalize prm - m = z at *
  generalize -m % prm = q at *
  intro w
  have hB : ∀ W, (∃ p : Regrown, W = grow (redrawn ((w.alloc (.cells (rd m) 30)).alloc (.cells #[.int .u64 0, .int .u64 0, .int .u64 0, .int .u64 0, .int .u64 0, .int .u64 0, .int .u64 0, .int .u64 0, .int .u64 0, .int .u64 0, .int .u64 0, .int .u64 0, .int .u64 0, .int .u64 0, .int .u64 0, .int .u64 0] 30)) p.d) p.os) → W.heap[w.heap.size]? = some (.cells (rd m) 30 (0, 0)) := by
    rintro _ ⟨p, rfl⟩; exact ((below_regrown _ p.d p.os).block _ (by simp; omega)).trans (hp2_0 w _ _)
  have HB := hide hB; clear hB
  go_enter Tryd.func27, Tryd.ntmps27
  go_wp2
  refine wp_region_tail (C := fun w' => ∃ p : Regrown, w' = grow (redrawn ((w.alloc (.cells (rd m) 30)).alloc (.cells #[.int .u64 0, .int .u64 0, .int .u64 0, .int .u64 0, .int .u64 0, .int .u64 0, .int .u64 0, .int .u64 0, .int .u64 0, .int .u64 0, .int .u64 0, .int .u64 0, .int .u64 0, .int .u64 0, .int .u64 0, .int .u64 0] 30)) p.d) p.os) 5 _ rfl rfl rfl (by kernel_rfl) (by kernel_rfl) (by kernel_rfl) (by kernel_rfl) ⟨⟨((w.alloc (.cells (rd m) 30)).alloc (.cells #[.int .u64 0, .int .u64 0, .int .u64 0, .int .u64 0, .int .u64 0, .int .u64 0, .int .u64 0, .int .u64 0, .int .u64 0, .int .u64 0, .int .u64 0, .int .u64 0, .int .u64 0, .int .u64 0, .int .u64 0, .int .u64 0] 30)).drawn + 1, #[]⟩, by rw [grow_empty]; rfl⟩ ?_
  dsimp only [List.set, idle]
  go_big_quiet_step (exact Calls.regrown_of (allPrime_any _))
  go_big_quiet_step (fail)
  refine wpQuiet_load_row rfl 28 _ rfl w.heap.size rfl 30 (rd m) (0, 0) _ HB.out Tryd.underlying28 rfl (by kernel_rfl) ?_
  simp only [Act.put, List.setIfInBounds_toArray, List.set_cons_succ, List.set_cons_zero]
  go_big_quiet_step (exact c1.re)
  go_big_quiet_step (exact c2.re)
  refine wpQuiet_idle rfl rfl rfl ?_
  rintro _ ⟨p, rfl⟩
  have hb := below_regrown ((w.alloc (.cells (rd m) 30)).alloc (.cells #[.int .u64 0, .int .u64 0, .int .u64 0, .int .u64 0, .int .u64 0, .int .u64 0, .int .u64 0, .int .u64 0, .int .u64 0, .int .u64 0, .int .u64 0, .int .u64 0, .int .u64 0, .int .u64 0, .int .u64 0, .int .u64 0] 30)) p.d p.os
  clear HB
  generalize grow (redrawn ((w.alloc (.cells (rd m) 30)).alloc (.cells #[.int .u64 0, .int .u64 0, .int .u64 0, .int .u64 0, .int .u64 0, .int .u64 0, .int .u64 0, .int .u64 0, .int .u64 0, .int .u64 0, .int .u64 0, .int .u64 0, .int .u64 0, .int .u64 0, .int .u64 0, .int .u64 0] 30)) p.d) p.os = W1 at *
  have rZ : W1.heap[w.heap.size + 1]? = some (.cells #[.int .u64 0, .int .u64 0, .int .u64 0, .int .u64 0, .int .u64 0, .int .u64 0, .int .u64 0, .int .u64 0, .int .u64 0, .int .u64 0, .int .u64 0, .int .u64 0, .int .u64 0, .int .u64 0, .int .u64 0, .int .u64 0] 30 (0, 0)) := (hb.block _ (by simp)).trans (hp2_1 w _ _)
  have hbw : Below w.heap.size w W1 := (((Below.refl _ _).alloc (Nat.le_refl _) _).alloc (by simp) _).trans (hb.mono (by simp; omega))
  clear hb
  go_wp2_with (first | (refine wpList_store_row rfl 30 _ _ rfl (w.heap.size + 1) (rd q) rfl rfl 30 _ rZ (rd_info q) rfl (rd_one q) ?_) | fail)
  exact bodyPost_ret (v := .agg (rd q)) (results_cell_row Tryd.results27 _ _ (w.heap.size + 1) _ (rd q) _ _ rfl (setRow_heap _ _ _ _ _ _ rZ) Tryd.underlying30 rfl (rd_info q)) rfl ⟨rfl, below_setRow hbw (by omega) _⟩


set_option maxHeartbeats 2000000 in
theorem r_sub {m k : Int} (h : inP m) (g : inP k) : Gives 26 #[.agg (rd m), .agg (rd k)] (.agg (rd ((m - k) % prm))) := by
  have c1 := r_neg g
  have c2 := r_add h (inP_mod (-k))
  have e : (m + -k % prm) % prm = (m - k) % prm := by rw [Int.add_emod_emod, Int.sub_eq_add_neg]
  rw [e] at c2
  clear e
  generalize -k % prm = z at *
  generalize (m - k) % prm = q at *
  intro w
  have H0 : Hid (∀ W, (∃ p : Regrown, W = grow (redrawn (((w.alloc (.cells (rd m) 30)).alloc (.cells (rd k) 30)).alloc (.cells #[.int .u64 0, .int .u64 0, .int .u64 0, .int .u64 0, .int .u64 0, .int .u64 0, .int .u64 0, .int .u64 0, .int .u64 0, .int .u64 0, .int .u64 0, .int .u64 0, .int .u64 0, .int .u64 0, .int .u64 0, .int .u64 0] 30)) p.d) p.os) → W.heap[w.heap.size]? = some (.cells (rd m) 30 (0, 0))) := keepr (hp3_0 w _ _ _)
  have H1 : Hid (∀ W, (∃ p : Regrown, W = grow (redrawn (((w.alloc (.cells (rd m) 30)).alloc (.cells (rd k) 30)).alloc (.cells #[.int .u64 0, .int .u64 0, .int .u64 0, .int .u64 0, .int .u64 0, .int .u64 0, .int .u64 0, .int .u64 0, .int .u64 0, .int .u64 0, .int .u64 0, .int .u64 0, .int .u64 0, .int .u64 0, .int .u64 0, .int .u64 0] 30)) p.d) p.os) → W.heap[w.heap.size + 1]? = some (.cells (rd k) 30 (0, 0))) := keepr (hp3_1 w _ _ _)
  go_enter Tryd.func26, Tryd.ntmps26
  go_wp2
  refine wp_region_tail (C := fun w' => ∃ p : Regrown, w' = grow (redrawn (((w.alloc (.cells (rd m) 30)).alloc (.cells (rd k) 30)).alloc (.cells #[.int .u64 0, .int .u64 0, .int .u64 0, .int .u64 0, .int .u64 0, .int .u64 0, .int .u64 0, .int .u64 0, .int .u64 0, .int .u64 0, .int .u64 0, .int .u64 0, .int .u64 0, .int .u64 0, .int .u64 0, .int .u64 0] 30)) p.d) p.os) 4 _ rfl rfl rfl (by kernel_rfl) (by kernel_rfl) (by kernel_rfl) (by kernel_rfl) ⟨⟨(((w.alloc (.cells (rd m) 30)).alloc (.cells (rd k) 30)).alloc (.cells #[.int .u64 0, .int .u64 0, .int .u64 0, .int .u64 0, .int .u64 0, .int .u64 0, .int .u64 0, .int .u64 0, .int .u64 0, .int .u64 0, .int .u64 0, .int .u64 0, .int .u64 0, .int .u64 0, .int .u64 0, .int .u64 0] 30)).drawn + 1, #[]⟩, by rw [grow_empty]; rfl⟩ ?_
  dsimp only [List.set, idle]
  refine wpQuiet_load_row rfl 30 _ rfl w.heap.size rfl 30 (rd m) (0, 0) _ H0.out Tryd.underlying30 rfl (rd_info m) ?_
  simp only [Act.put, List.setIfInBounds_toArray, List.set_cons_succ, List.set_cons_zero]
  refine wpQuiet_load_row rfl 30 _ rfl (w.heap.size + 1) rfl 30 (rd k) (0, 0) _ H1.out Tryd.underlying30 rfl (rd_info k) ?_
  simp only [Act.put, List.setIfInBounds_toArray, List.set_cons_succ, List.set_cons_zero]
  go_big_quiet_step (exact c1.re)
  go_big_quiet_step (exact c2.re)
  refine wpQuiet_idle rfl rfl rfl ?_
  rintro _ ⟨p, rfl⟩
  have hb := below_regrown (((w.alloc (.cells (rd m) 30)).alloc (.cells (rd k) 30)).alloc (.cells #[.int .u64 0, .int .u64 0, .int .u64 0, .int .u64 0, .int .u64 0, .int .u64 0, .int .u64 0, .int .u64 0, .int .u64 0, .int .u64 0, .int .u64 0, .int .u64 0, .int .u64 0, .int .u64 0, .int .u64 0, .int .u64 0] 30)) p.d p.os
  clear H0 H1
  generalize grow (redrawn (((w.alloc (.cells (rd m) 30)).alloc (.cells (rd k) 30)).alloc (.cells #[.int .u64 0, .int .u64 0, .int .u64 0, .int .u64 0, .int .u64 0, .int .u64 0, .int .u64 0, .int .u64 0, .int .u64 0, .int .u64 0, .int .u64 0, .int .u64 0, .int .u64 0, .int .u64 0, .int .u64 0, .int .u64 0] 30)) p.d) p.os = W1 at *
  have rZ : W1.heap[w.heap.size + 1 + 1]? = some (.cells #[.int .u64 0, .int .u64 0, .int .u64 0, .int .u64 0, .int .u64 0, .int .u64 0, .int .u64 0, .int .u64 0, .int .u64 0, .int .u64 0, .int .u64 0, .int .u64 0, .int .u64 0, .int .u64 0, .int .u64 0, .int .u64 0] 30 (0, 0)) := (hb.block _ (by simp)).trans (hp3_2 w _ _ _)
  have hbw : Below w.heap.size w W1 := ((((Below.refl _ _).alloc (Nat.le_refl _) _).alloc (by simp) _).alloc (by simp; omega) _).trans (hb.mono (by simp; omega))
  clear hb
  go_wp2_with (first | (refine wpList_store_row rfl 30 _ _ rfl (w.heap.size + 1 + 1) (rd q) rfl rfl 30 _ rZ (rd_info q) rfl (rd_one q) ?_) | fail)
  exact bodyPost_ret (v := .agg (rd q)) (results_cell_row Tryd.results26 _ _ (w.heap.size + 1 + 1) _ (rd q) _ _ rfl (setRow_heap _ _ _ _ _ _ rZ) Tryd.underlying30 rfl (rd_info q)) rfl ⟨rfl, below_setRow hbw (by omega) _⟩

theorem r_odd (m : Int) : Gives 39 #[.agg (rd m)] (.bool (dg m 0 % 2 == 1)) := by
  intro w
  obtain ⟨l, u⟩ := dg_bd m 0
  go_enter Tryd.func39, Tryd.ntmps39
  have hc : (w.alloc (.cells (rd m) 30)).cell? ⟨w.heap.size, 0, none⟩ = some (.int .u64 (dg m 0)) := by simp [go_sem, rd]
  go_wp2
  go_ret
  exact ⟨rfl, (Below.refl _ _).alloc (Nat.le_refl _) _⟩

theorem rd_cell (m : Int) (i : Nat) (hi : i < 16) : (rd m)[i]? = some (.int .u64 (dg m i)) := by
  rcases (by omega : i = 0 ∨ i = 1 ∨ i = 2 ∨ i = 3 ∨ i = 4 ∨ i = 5 ∨ i = 6 ∨ i = 7 ∨ i = 8 ∨ i = 9 ∨ i = 10 ∨ i = 11 ∨ i = 12 ∨ i = 13 ∨ i = 14 ∨ i = 15) with rfl | rfl | rfl | rfl | rfl | rfl | rfl | rfl | rfl | rfl | rfl | rfl | rfl | rfl | rfl | rfl <;> rfl
theorem dg_inj {m k : Int} (h : inP m) (g : inP k) (e : ∀ j, j < 16 → dg m j = dg k j) : m = k := by
  rw [← v16_dg m h, ← v16_dg k g, e 0 (by decide), e 1 (by decide), e 2 (by decide), e 3 (by decide), e 4 (by decide), e 5 (by decide), e 6 (by decide), e 7 (by decide), e 8 (by decide), e 9 (by decide), e 10 (by decide), e 11 (by decide), e 12 (by decide), e 13 (by decide), e 14 (by decide), e 15 (by decide)]
set_option maxHeartbeats 2000000 in
theorem r_equal {m k : Int} (h : inP m) (g : inP k) : Gives 35 #[.agg (rd m), .agg (rd k)] (.bool (decide (m = k))) := by
  intro w
  have hm := rd_cell m; have hk := rd_cell k
  have Hm := hide hm; have Hk := hide hk
  clear hm hk
  have inj := hide (dg_inj h g)
  go_enter Tryd.func35, Tryd.ntmps35
  go_wp2
  go_loopw [5] (fun i wr => ∃ t : Nat, t ≤ 16 ∧ i = .int .i64 t ∧ ∃ nn : Nat, wr = ((w.alloc (.cells (rd m) 30)).alloc (.cells (rd k) 30)).drewN nn ∧ Hid (∀ j, j < t → dg m j = dg k j)) (fun i _ => 16 - (intOf i).toNat)
  case atStart => exact ⟨0, by omega, rfl, 0, rfl, fun j hj => absurd hj (by omega)⟩
  case round =>
    obtain ⟨t, ht, rfl, nn, rfl, HE⟩ := hrel
    by_cases hlt : t < 16
    · have hd : decide ((t : Int) < 16) = true := by simp; omega
      have hcm := Hm.out t hlt
      have hck := Hk.out t hlt
      by_cases e : dg m t = dg k t
      · rw [← e] at hck
        go_wp2
        go_quiet (fail)
        go_wp2
        go_roundw
        case rel => exact ⟨t + 1, by omega, by go_num, _, rfl, fun j hj => if h : j < t then HE.out j h else by rw [show j = t by omega]; exact e⟩
        case measure => simp [intOf]; omega
      · have hne : (dg m t == dg k t) = false := by simp [e]
        have hmk : decide (m = k) = false := by
          rw [decide_eq_false_iff_not]; rintro rfl; exact e rfl
        go_wp2
        go_quiet (fail)
        go_wp2
        go_ret
        exact ⟨by rw [hmk]; rfl, below_drN (below_drN (((Below.refl _ _).alloc (Nat.le_refl _) _).alloc (by simp) _) _) _⟩
    · obtain rfl : t = 16 := by omega
      have hd : decide (((16 : Nat) : Int) < 16) = false := by decide
      have hmk : decide (m = k) = true := decide_eq_true (inj.out HE.out)
      go_wp2
      go_ret
      exact ⟨by rw [hmk]; rfl, below_drN (((Below.refl _ _).alloc (Nat.le_refl _) _).alloc (by simp) _) _⟩
theorem r_isZero {m : Int} (h : inP m) : Gives 37 #[.agg (rd m)] (.bool (decide (m = 0))) := by
  have c := r_equal h (show inP 0 by unfold inP prm; omega)
  rw [rd_zero] at c
  intro w
  go_enter Tryd.func37, Tryd.ntmps37
  go_wp2_with (first | (refine wpList_load_row rfl 30 _ rfl w.heap.size rfl 30 (rd m) (0, 0) _ (hp1_0 w _) Tryd.underlying30 rfl (rd_info m) ?_) | fail)
  refine (c.at _).mono ?_
  rintro e w1 ⟨rfl, hb⟩
  go_wp2
  go_ret
  exact ⟨rfl, ((Below.refl _ _).alloc (Nat.le_refl _) _).trans (hb.mono (by simp))⟩
set_option maxHeartbeats 1000000 in
theorem r_swap (m k : Int) (on : Bool) : Gives 6 #[.agg (rd m), .agg (rd k), .bool on] (.tuple #[.agg (rd (if on then k else m)), .agg (rd (if on then m else k))]) := by
  intro w
  cases on
  all_goals
    go_enter Tryd.func6, Tryd.ntmps6
    go_wp2
    have rp0 : ((((w.alloc (.cells (rd m) 30)).alloc (.cells (rd k) 30)).alloc (.cells #[.int .u64 0, .int .u64 0, .int .u64 0, .int .u64 0, .int .u64 0, .int .u64 0, .int .u64 0, .int .u64 0, .int .u64 0, .int .u64 0, .int .u64 0, .int .u64 0, .int .u64 0, .int .u64 0, .int .u64 0, .int .u64 0] 30)).alloc (.cells #[.int .u64 0, .int .u64 0, .int .u64 0, .int .u64 0, .int .u64 0, .int .u64 0, .int .u64 0, .int .u64 0, .int .u64 0, .int .u64 0, .int .u64 0, .int .u64 0, .int .u64 0, .int .u64 0, .int .u64 0, .int .u64 0] 30)).heap[w.heap.size]? = some (.cells (rd m) 30 (0, 0)) := hp4_0 w _ _ _ _
    have rp1 : ((((w.alloc (.cells (rd m) 30)).alloc (.cells (rd k) 30)).alloc (.cells #[.int .u64 0, .int .u64 0, .int .u64 0, .int .u64 0, .int .u64 0, .int .u64 0, .int .u64 0, .int .u64 0, .int .u64 0, .int .u64 0, .int .u64 0, .int .u64 0, .int .u64 0, .int .u64 0, .int .u64 0, .int .u64 0] 30)).alloc (.cells #[.int .u64 0, .int .u64 0, .int .u64 0, .int .u64 0, .int .u64 0, .int .u64 0, .int .u64 0, .int .u64 0, .int .u64 0, .int .u64 0, .int .u64 0, .int .u64 0, .int .u64 0, .int .u64 0, .int .u64 0, .int .u64 0] 30)).heap[w.heap.size + 1]? = some (.cells (rd k) 30 (0, 0)) := hp4_1 w _ _ _ _
    have rp2 : ((((w.alloc (.cells (rd m) 30)).alloc (.cells (rd k) 30)).alloc (.cells #[.int .u64 0, .int .u64 0, .int .u64 0, .int .u64 0, .int .u64 0, .int .u64 0, .int .u64 0, .int .u64 0, .int .u64 0, .int .u64 0, .int .u64 0, .int .u64 0, .int .u64 0, .int .u64 0, .int .u64 0, .int .u64 0] 30)).alloc (.cells #[.int .u64 0, .int .u64 0, .int .u64 0, .int .u64 0, .int .u64 0, .int .u64 0, .int .u64 0, .int .u64 0, .int .u64 0, .int .u64 0, .int .u64 0, .int .u64 0, .int .u64 0, .int .u64 0, .int .u64 0, .int .u64 0] 30)).heap[w.heap.size + 1 + 1]? = some (.cells #[.int .u64 0, .int .u64 0, .int .u64 0, .int .u64 0, .int .u64 0, .int .u64 0, .int .u64 0, .int .u64 0, .int .u64 0, .int .u64 0, .int .u64 0, .int .u64 0, .int .u64 0, .int .u64 0, .int .u64 0, .int .u64 0] 30 (0, 0)) := hp4_2 w _ _ _ _
    have rp3 : ((((w.alloc (.cells (rd m) 30)).alloc (.cells (rd k) 30)).alloc (.cells #[.int .u64 0, .int .u64 0, .int .u64 0, .int .u64 0, .int .u64 0, .int .u64 0, .int .u64 0, .int .u64 0, .int .u64 0, .int .u64 0, .int .u64 0, .int .u64 0, .int .u64 0, .int .u64 0, .int .u64 0, .int .u64 0] 30)).alloc (.cells #[.int .u64 0, .int .u64 0, .int .u64 0, .int .u64 0, .int .u64 0, .int .u64 0, .int .u64 0, .int .u64 0, .int .u64 0, .int .u64 0, .int .u64 0, .int .u64 0, .int .u64 0, .int .u64 0, .int .u64 0, .int .u64 0] 30)).heap[w.heap.size + 1 + 1 + 1]? = some (.cells #[.int .u64 0, .int .u64 0, .int .u64 0, .int .u64 0, .int .u64 0, .int .u64 0, .int .u64 0, .int .u64 0, .int .u64 0, .int .u64 0, .int .u64 0, .int .u64 0, .int .u64 0, .int .u64 0, .int .u64 0, .int .u64 0] 30 (0, 0)) := hp4_3 w _ _ _ _
    have hw : Below w.heap.size w ((((w.alloc (.cells (rd m) 30)).alloc (.cells (rd k) 30)).alloc (.cells #[.int .u64 0, .int .u64 0, .int .u64 0, .int .u64 0, .int .u64 0, .int .u64 0, .int .u64 0, .int .u64 0, .int .u64 0, .int .u64 0, .int .u64 0, .int .u64 0, .int .u64 0, .int .u64 0, .int .u64 0, .int .u64 0] 30)).alloc (.cells #[.int .u64 0, .int .u64 0, .int .u64 0, .int .u64 0, .int .u64 0, .int .u64 0, .int .u64 0, .int .u64 0, .int .u64 0, .int .u64 0, .int .u64 0, .int .u64 0, .int .u64 0, .int .u64 0, .int .u64 0, .int .u64 0] 30)) := (((((Below.refl _ _).alloc (Nat.le_refl _) _).alloc (by simp) _).alloc (by simp; omega) _).alloc (by simp; omega) _)
    generalize ((((w.alloc (.cells (rd m) 30)).alloc (.cells (rd k) 30)).alloc (.cells #[.int .u64 0, .int .u64 0, .int .u64 0, .int .u64 0, .int .u64 0, .int .u64 0, .int .u64 0, .int .u64 0, .int .u64 0, .int .u64 0, .int .u64 0, .int .u64 0, .int .u64 0, .int .u64 0, .int .u64 0, .int .u64 0] 30)).alloc (.cells #[.int .u64 0, .int .u64 0, .int .u64 0, .int .u64 0, .int .u64 0, .int .u64 0, .int .u64 0, .int .u64 0, .int .u64 0, .int .u64 0, .int .u64 0, .int .u64 0, .int .u64 0, .int .u64 0, .int .u64 0, .int .u64 0] 30)) = w0 at *
    first
      | (refine wp_region_pair (by kernel_rfl) (by kernel_rfl) (by kernel_rfl) (by kernel_rfl) (by kernel_rfl) (by kernel_rfl) (by kernel_rfl) (by kernel_rfl) 30 30 _ _ _ _ 11 12 rfl rfl rfl rfl rfl rfl rfl rfl rfl rfl rfl rfl (w.heap.size) (w.heap.size + 1) (w.heap.size + 1 + 1) (w.heap.size + 1 + 1 + 1) (rd m) (rd k) #[.int .u64 0, .int .u64 0, .int .u64 0, .int .u64 0, .int .u64 0, .int .u64 0, .int .u64 0, .int .u64 0, .int .u64 0, .int .u64 0, .int .u64 0, .int .u64 0, .int .u64 0, .int .u64 0, .int .u64 0, .int .u64 0] #[.int .u64 0, .int .u64 0, .int .u64 0, .int .u64 0, .int .u64 0, .int .u64 0, .int .u64 0, .int .u64 0, .int .u64 0, .int .u64 0, .int .u64 0, .int .u64 0, .int .u64 0, .int .u64 0, .int .u64 0, .int .u64 0] 30 30 30 30 (0, 0) (0, 0) _ _ _ rp0 rp1 rp2 rp3 (by omega) (by omega) Tryd.underlying30 rfl (rd_info m) rfl (rd_one m) Tryd.underlying30 rfl (rd_info k) rfl (rd_one k) rfl rfl rfl rfl rfl rfl rfl rfl rfl rfl rfl rfl ?_
         intro w1 hb
         replace rp2 := keep hb rp2
         replace rp3 := keep hb rp3
         replace hw := Below.after hw hb
         go_wp2
         exact bodyPost_ret (v := .tuple #[.agg (rd m), .agg (rd k)]) (results_rows2 Tryd.results6 _ _ (w.heap.size + 1 + 1) (w.heap.size + 1 + 1 + 1) _ _ (rd m) (rd k) _ _ _ _ rfl ((setRow_other _ (w.heap.size + 1 + 1 + 1) (w.heap.size + 1 + 1) (rd k) (by omega)).trans (setRow_heap _ _ _ _ _ _ rp2)) rfl (setRow_heap _ _ _ _ _ _ ((setRow_other w1 (w.heap.size + 1 + 1) (w.heap.size + 1 + 1 + 1) (rd m) (by omega)).trans rp3)) Tryd.underlying30 rfl (rd_info m) Tryd.underlying30 rfl (rd_info k)) rfl ⟨rfl, below_setRow (below_setRow hw (by omega) _) (by omega) _⟩)
      | (refine wp_region_pair (by kernel_rfl) (by kernel_rfl) (by kernel_rfl) (by kernel_rfl) (by kernel_rfl) (by kernel_rfl) (by kernel_rfl) (by kernel_rfl) 30 30 _ _ _ _ 9 10 rfl rfl rfl rfl rfl rfl rfl rfl rfl rfl rfl rfl (w.heap.size + 1) (w.heap.size) (w.heap.size + 1 + 1) (w.heap.size + 1 + 1 + 1) (rd k) (rd m) #[.int .u64 0, .int .u64 0, .int .u64 0, .int .u64 0, .int .u64 0, .int .u64 0, .int .u64 0, .int .u64 0, .int .u64 0, .int .u64 0, .int .u64 0, .int .u64 0, .int .u64 0, .int .u64 0, .int .u64 0, .int .u64 0] #[.int .u64 0, .int .u64 0, .int .u64 0, .int .u64 0, .int .u64 0, .int .u64 0, .int .u64 0, .int .u64 0, .int .u64 0, .int .u64 0, .int .u64 0, .int .u64 0, .int .u64 0, .int .u64 0, .int .u64 0, .int .u64 0] 30 30 30 30 (0, 0) (0, 0) _ _ _ rp1 rp0 rp2 rp3 (by omega) (by omega) Tryd.underlying30 rfl (rd_info k) rfl (rd_one k) Tryd.underlying30 rfl (rd_info m) rfl (rd_one m) rfl rfl rfl rfl rfl rfl rfl rfl rfl rfl rfl rfl ?_
         intro w1 hb
         replace rp2 := keep hb rp2
         replace rp3 := keep hb rp3
         replace hw := Below.after hw hb
         go_wp2
         exact bodyPost_ret (v := .tuple #[.agg (rd k), .agg (rd m)]) (results_rows2 Tryd.results6 _ _ (w.heap.size + 1 + 1) (w.heap.size + 1 + 1 + 1) _ _ (rd k) (rd m) _ _ _ _ rfl ((setRow_other _ (w.heap.size + 1 + 1 + 1) (w.heap.size + 1 + 1) (rd m) (by omega)).trans (setRow_heap _ _ _ _ _ _ rp2)) rfl (setRow_heap _ _ _ _ _ _ ((setRow_other w1 (w.heap.size + 1 + 1) (w.heap.size + 1 + 1 + 1) (rd k) (by omega)).trans rp3)) Tryd.underlying30 rfl (rd_info k) Tryd.underlying30 rfl (rd_info m)) rfl ⟨rfl, below_setRow (below_setRow hw (by omega) _) (by omega) _⟩)

end Go.Proofs.YtnohfbpmckhbbaaDoor


namespace Go.Proofs.YtnohfbpmckhbbaaDoor
set_option maxRecDepth 100000
open Go Go.RowKit Go.Sort
theorem cut_at2 {P : Program} {md : Region.Mode} {ops : Array Oper} {Q : Exit → Act → World → Prop} {fuel : Nat} {listed : Array Bool} {a : Act} {w : World} (f2 : Nat) (l2 : Array Bool) (S : Nat → World → Prop) (a2 : Nat → Value → Act)
    (h1 : (∀ g v W, S g W → wpAny P md ops Q f2 l2 (a2 g v) W) → wpAny P md ops Q fuel listed a w) (h2 : ∀ g v W, S g W → wpAny P md ops Q f2 l2 (a2 g v) W) : wpAny P md ops Q fuel listed a w := h1 h2
/-- An operation that yields a value and a world. -/
theorem wp_world_op {P : Program} {o : Oper} {a : Act} {w : World} {K : Act → World → Prop} {Q : Exit → Act → World → Prop} (v : Value) (w' : World) (hx : (execOp a.eval o).run P w = .ok (.value v) w') (h : K (a.put o.dst v) w') : o.wp P a w K Q := by
  unfold Oper.wp
  rw [hx, Oper.upon_value]
  exact h
end Go.Proofs.YtnohfbpmckhbbaaDoor

namespace Go.Proofs.YtnohfbpmckhbbaaDoor
set_option maxRecDepth 100000
open Go.RowKit Go.Sort
attribute [local go_sem] setCell_drewN alloc_drewN


theorem bval_n255 : bval ((nl 255).set 0 (255 - (21 - 1))) = 57896044618658097711785492504343953926634992332820282019728792003956564819947 := by decide +kernel
set_option maxRecDepth 100000 in
set_option maxHeartbeats 2000000 in
theorem r_invert {m : Int} (h : inP m) : Gives 32 #[.agg (rd m)] (.agg (rd (m ^ 57896044618658097711785492504343953926634992332820282019728792003956564819947 % prm))) := by
  generalize hq : m ^ 57896044618658097711785492504343953926634992332820282019728792003956564819947 % prm = q
  have c4 := r_power h ((nl 255).set 0 (255 - (21 - 1)))
  rw [bval_n255, hq] at c4
  clear hq
  intro w
  go_enter Tryd.func32, Tryd.ntmps32
  go_wp2
  have rp0 : ((w.alloc (.cells (rd m) 30)).alloc (.cells #[.int .u64 0, .int .u64 0, .int .u64 0, .int .u64 0, .int .u64 0, .int .u64 0, .int .u64 0, .int .u64 0, .int .u64 0, .int .u64 0, .int .u64 0, .int .u64 0, .int .u64 0, .int .u64 0, .int .u64 0, .int .u64 0] 30)).heap[w.heap.size]? = some (.cells (rd m) 30 (0, 0)) := hp2_0 w _ _
  have rp1 : ((w.alloc (.cells (rd m) 30)).alloc (.cells #[.int .u64 0, .int .u64 0, .int .u64 0, .int .u64 0, .int .u64 0, .int .u64 0, .int .u64 0, .int .u64 0, .int .u64 0, .int .u64 0, .int .u64 0, .int .u64 0, .int .u64 0, .int .u64 0, .int .u64 0, .int .u64 0] 30)).heap[w.heap.size + 1]? = some (.cells #[.int .u64 0, .int .u64 0, .int .u64 0, .int .u64 0, .int .u64 0, .int .u64 0, .int .u64 0, .int .u64 0, .int .u64 0, .int .u64 0, .int .u64 0, .int .u64 0, .int .u64 0, .int .u64 0, .int .u64 0, .int .u64 0] 30 (0, 0)) := hp2_1 w _ _
  have hw : Below w.heap.size w ((w.alloc (.cells (rd m) 30)).alloc (.cells #[.int .u64 0, .int .u64 0, .int .u64 0, .int .u64 0, .int .u64 0, .int .u64 0, .int .u64 0, .int .u64 0, .int .u64 0, .int .u64 0, .int .u64 0, .int .u64 0, .int .u64 0, .int .u64 0, .int .u64 0, .int .u64 0] 30)) := (((Below.refl _ _).alloc (Nat.le_refl _) _).alloc (by simp) _)
  generalize ((w.alloc (.cells (rd m) 30)).alloc (.cells #[.int .u64 0, .int .u64 0, .int .u64 0, .int .u64 0, .int .u64 0, .int .u64 0, .int .u64 0, .int .u64 0, .int .u64 0, .int .u64 0, .int .u64 0, .int .u64 0, .int .u64 0, .int .u64 0, .int .u64 0, .int .u64 0] 30)) = w0 at *
  refine wp_region_any (by kernel_rfl) ?_
  have hb : Below w0.heap.size w0 { w0 with drawn := w0.drawn + 1 } := ⟨rfl, rfl, rfl, Nat.le_refl _, fun _ _ => rfl⟩
  generalize ({ w0 with drawn := w0.drawn + 1 } : World) = w1 at *
  replace rp0 := keep hb rp0
  replace rp1 := keep hb rp1
  replace hw := Below.after hw hb
  clear hb
  refine wpAny_ready (rs := [0, 1]) (fuel := 3) (by kernel_rfl) (by simp) (AllReady.cons rfl (fun K' hK => ?_) (AllReady.cons rfl (fun K' hK => ?_) AllReady.nil))
  · skip
    rw [if_pos (by kernel_rfl)]
    simp only [List.getElem_toArray, List.getElem_cons_zero]
    refine wp_load_row 30 _ rfl (w.heap.size) rfl 30 (rd m) (0, 0) _ rp0 Tryd.underlying30 rfl (rd_info m) (hK _ _ ?_)
    simp only [Act.put, List.setIfInBounds_toArray, List.set_cons_succ, List.set_cons_zero]
    clear hK
    refine wpAny_ready (rs := [1]) (fuel := 2) (by kernel_rfl) (by simp) (AllReady.cons rfl (fun K' hK => ?_) AllReady.nil)
    rw [if_pos (by kernel_rfl)]
    simp only [List.getElem_toArray, List.getElem_cons_succ, List.getElem_cons_zero]
    refine wp_call_ex (f := 54) (args := #[.int .i64 255, .int .i64 21]) (by kernel_rfl) (number_walk 255 21 (by decide) (by decide) (by decide) (by decide) w1) (fun v2 w2 ⟨hBv2, hb⟩ => hK _ _ ?_)
    simp only [Act.put, List.setIfInBounds_toArray, List.set_cons_succ, List.set_cons_zero]
    clear hK
    replace rp0 := keep hb rp0
    replace rp1 := keep hb rp1
    replace hw := Below.after hw hb
    clear hb
    refine wpAny_ready (rs := [2]) (fuel := 1) (by kernel_rfl) (by simp) (AllReady.cons rfl (fun K' hK => ?_) AllReady.nil)
    rw [if_pos (by kernel_rfl)]
    simp only [List.getElem_toArray, List.getElem_cons_succ, List.getElem_cons_zero]
    refine wp_call_op (f := 31) (args := #[.agg (rd m), v2]) (by kernel_rfl) (c4 _ _ hBv2) (fun w3 hb => hK _ _ ?_)
    simp only [Act.put, List.setIfInBounds_toArray, List.set_cons_succ, List.set_cons_zero]
    clear hK
    replace rp0 := keep hb rp0
    replace rp1 := keep hb rp1
    replace hw := Below.after hw hb
    replace hBv2 := hBv2.keep hb
    clear hb
    refine wpAny_ready (rs := [3]) (fuel := 0) (by kernel_rfl) (by simp) (AllReady.cons rfl (fun K' hK => ?_) AllReady.nil)
    rw [if_pos (by kernel_rfl)]
    simp only [List.getElem_toArray, List.getElem_cons_succ, List.getElem_cons_zero]
    refine wp_store_row 30 _ _ rfl (w.heap.size + 1) (rd q) rfl rfl 30 _ rp1 (rd_info q) ((rd_size 0).trans (rd_size q).symm) (rd_one q) (hK _ _ ?_)
    simp only [Act.put]
    clear hK
    replace rp0 := (setRow_other w3 (w.heap.size + 1) (w.heap.size) (rd q) (by first | assumption | omega)).trans rp0
    replace rp1 := setRow_heap w3 (w.heap.size + 1) _ (rd q) _ _ rp1
    replace hw := below_setRow hw (show w.heap.size ≤ w.heap.size + 1 by first | assumption | omega) (rd q)
    generalize w3.setRow (w.heap.size + 1) (rd q) = w5 at *
    refine wpAny_done (by kernel_rfl) ?_ _
    go_wp2
    exact bodyPost_ret (v := .agg (rd q)) (results_cell_row Tryd.results32 _ _ (w.heap.size + 1) _ (rd q) _ _ rfl rp1 Tryd.underlying30 rfl (rd_info q)) rfl ⟨rfl, hw⟩
  · skip
    rw [if_pos (by kernel_rfl)]
    simp only [List.getElem_toArray, List.getElem_cons_succ, List.getElem_cons_zero]
    refine wp_call_ex (f := 54) (args := #[.int .i64 255, .int .i64 21]) (by kernel_rfl) (number_walk 255 21 (by decide) (by decide) (by decide) (by decide) w1) (fun v6 w6 ⟨hBv6, hb⟩ => hK _ _ ?_)
    simp only [Act.put, List.setIfInBounds_toArray, List.set_cons_succ, List.set_cons_zero]
    clear hK
    replace rp0 := keep hb rp0
    replace rp1 := keep hb rp1
    replace hw := Below.after hw hb
    clear hb
    refine wpAny_ready (rs := [0]) (fuel := 2) (by kernel_rfl) (by simp) (AllReady.cons rfl (fun K' hK => ?_) AllReady.nil)
    rw [if_pos (by kernel_rfl)]
    simp only [List.getElem_toArray, List.getElem_cons_zero]
    refine wp_load_row 30 _ rfl (w.heap.size) rfl 30 (rd m) (0, 0) _ rp0 Tryd.underlying30 rfl (rd_info m) (hK _ _ ?_)
    simp only [Act.put, List.setIfInBounds_toArray, List.set_cons_succ, List.set_cons_zero]
    clear hK
    refine wpAny_ready (rs := [2]) (fuel := 1) (by kernel_rfl) (by simp) (AllReady.cons rfl (fun K' hK => ?_) AllReady.nil)
    rw [if_pos (by kernel_rfl)]
    simp only [List.getElem_toArray, List.getElem_cons_succ, List.getElem_cons_zero]
    refine wp_call_op (f := 31) (args := #[.agg (rd m), v6]) (by kernel_rfl) (c4 _ _ hBv6) (fun w7 hb => hK _ _ ?_)
    simp only [Act.put, List.setIfInBounds_toArray, List.set_cons_succ, List.set_cons_zero]
    clear hK
    replace rp0 := keep hb rp0
    replace rp1 := keep hb rp1
    replace hw := Below.after hw hb
    replace hBv6 := hBv6.keep hb
    clear hb
    refine wpAny_ready (rs := [3]) (fuel := 0) (by kernel_rfl) (by simp) (AllReady.cons rfl (fun K' hK => ?_) AllReady.nil)
    rw [if_pos (by kernel_rfl)]
    simp only [List.getElem_toArray, List.getElem_cons_succ, List.getElem_cons_zero]
    refine wp_store_row 30 _ _ rfl (w.heap.size + 1) (rd q) rfl rfl 30 _ rp1 (rd_info q) ((rd_size 0).trans (rd_size q).symm) (rd_one q) (hK _ _ ?_)
    simp only [Act.put]
    clear hK
    replace rp0 := (setRow_other w7 (w.heap.size + 1) (w.heap.size) (rd q) (by first | assumption | omega)).trans rp0
    replace rp1 := setRow_heap w7 (w.heap.size + 1) _ (rd q) _ _ rp1
    replace hw := below_setRow hw (show w.heap.size ≤ w.heap.size + 1 by first | assumption | omega) (rd q)
    generalize w7.setRow (w.heap.size + 1) (rd q) = w8 at *
    refine wpAny_done (by kernel_rfl) ?_ _
    go_wp2
    exact bodyPost_ret (v := .agg (rd q)) (results_cell_row Tryd.results32 _ _ (w.heap.size + 1) _ (rd q) _ _ rfl rp1 Tryd.underlying30 rfl (rd_info q)) rfl ⟨rfl, hw⟩


end Go.Proofs.YtnohfbpmckhbbaaDoor

namespace Go.Proofs.YtnohfbpmckhbbaaDoor
set_option maxRecDepth 100000
open Go Go.RowKit Go.Sort
theorem bval_n252 : bval ((nl 252).set 0 (255 - (2 - 1))) = 7237005577332262213973186563042994240829374041602535252466099000494570602494 := by decide +kernel
theorem bval_n253 : bval ((nl 253).set 0 (255 - (5 - 1))) = 14474011154664524427946373126085988481658748083205070504932198000989141204987 := by decide +kernel
theorem in_two : inP 2 := by unfold inP prm; decide
theorem in_uu : inP uu := by unfold inP prm uu; decide
theorem odd_dg (q : Int) : (dg q 0 % 2 == 1) = decide (q % 2 = 1) := by
  have e : dg q 0 % 2 = q % 2 := by
    simp only [dg, Int.pow_zero, Int.ediv_one]
    omega
  rw [e]
  by_cases h : q % 2 = 1
  · rw [decide_eq_true h, beq_iff_eq]; exact h
  · rw [decide_eq_false h, beq_eq_false_iff_ne]; exact h
end Go.Proofs.YtnohfbpmckhbbaaDoor


namespace Go.Proofs.YtnohfbpmckhbbaaDoor
set_option maxRecDepth 100000
open Go.RowKit Go.Sort
attribute [local go_sem] setCell_drewN alloc_drewN


set_option maxRecDepth 100000 in
set_option maxHeartbeats 4000000 in
theorem refRoot_Te {m : Int} (h : inP m) (h1e : m ^ 7237005577332262213973186563042994240829374041602535252466099000494570602494 * m ^ 7237005577332262213973186563042994240829374041602535252466099000494570602494 % prm = m % prm) (hoe : (m ^ 7237005577332262213973186563042994240829374041602535252466099000494570602494) % prm % 2 ≠ 1) : Gives 33 #[.agg (rd m)] (.tuple #[.agg (rd (ev (m ^ 7237005577332262213973186563042994240829374041602535252466099000494570602494) % prm)), .bool true]) := by
  have em : m % prm = m := Int.emod_eq_of_lt h.1 h.2
  have in2 : inP 2 := in_two
  have inu : inP uu := in_uu
  generalize hq0e : m ^ 7237005577332262213973186563042994240829374041602535252466099000494570602494 % prm = q0
  have hq0 : inP q0 := hq0e ▸ inP_mod _
  have h1q : q0 * q0 % prm = m := by rw [← hq0e, ← Int.mul_emod]; rw [em] at h1e; exact h1e
  have hqx : (m ^ 7237005577332262213973186563042994240829374041602535252466099000494570602494) % prm = q0 := hq0e
  rw [hqx] at hoe
  have hodd : (dg q0 0 % 2 == 1) = false := by rw [odd_dg, decide_eq_false hoe]
  have hev : ev (m ^ 7237005577332262213973186563042994240829374041602535252466099000494570602494) % prm = q0 := by
    unfold ev
    rw [hqx, if_neg hoe]
    exact hqx
  rw [hev]
  have c4 := r_power h ((nl 252).set 0 (255 - (2 - 1)))
  rw [bval_n252] at c4
  rw [hq0e] at c4
  have c33 := r_square hq0
  have c34 := r_equal (inP_mod (q0 * q0)) h
  rw [decide_eq_true h1q] at c34
  have c36 := r_odd q0
  rw [hodd] at c36
  intro w
  clear h1e h1q hoe hodd hev hqx em
  go_enter Tryd.func33, Tryd.ntmps33
  go_wp2
  have rp0 : ((w.alloc (.cells (rd m) 30)).alloc (.cells #[.int .u64 0, .int .u64 0, .int .u64 0, .int .u64 0, .int .u64 0, .int .u64 0, .int .u64 0, .int .u64 0, .int .u64 0, .int .u64 0, .int .u64 0, .int .u64 0, .int .u64 0, .int .u64 0, .int .u64 0, .int .u64 0] 30)).heap[w.heap.size]? = some (.cells (rd m) 30 (0, 0)) := hp2_0 w _ _
  have rp1 : ((w.alloc (.cells (rd m) 30)).alloc (.cells #[.int .u64 0, .int .u64 0, .int .u64 0, .int .u64 0, .int .u64 0, .int .u64 0, .int .u64 0, .int .u64 0, .int .u64 0, .int .u64 0, .int .u64 0, .int .u64 0, .int .u64 0, .int .u64 0, .int .u64 0, .int .u64 0] 30)).heap[w.heap.size + 1]? = some (.cells #[.int .u64 0, .int .u64 0, .int .u64 0, .int .u64 0, .int .u64 0, .int .u64 0, .int .u64 0, .int .u64 0, .int .u64 0, .int .u64 0, .int .u64 0, .int .u64 0, .int .u64 0, .int .u64 0, .int .u64 0, .int .u64 0] 30 (0, 0)) := hp2_1 w _ _
  have hw : Below w.heap.size w ((w.alloc (.cells (rd m) 30)).alloc (.cells #[.int .u64 0, .int .u64 0, .int .u64 0, .int .u64 0, .int .u64 0, .int .u64 0, .int .u64 0, .int .u64 0, .int .u64 0, .int .u64 0, .int .u64 0, .int .u64 0, .int .u64 0, .int .u64 0, .int .u64 0, .int .u64 0] 30)) := (((Below.refl _ _).alloc (Nat.le_refl _) _).alloc (by simp) _)
  generalize ((w.alloc (.cells (rd m) 30)).alloc (.cells #[.int .u64 0, .int .u64 0, .int .u64 0, .int .u64 0, .int .u64 0, .int .u64 0, .int .u64 0, .int .u64 0, .int .u64 0, .int .u64 0, .int .u64 0, .int .u64 0, .int .u64 0, .int .u64 0, .int .u64 0, .int .u64 0] 30)) = w0 at *
  refine wp_region_any (by kernel_rfl) ?_
  have hb : Below w0.heap.size w0 { w0 with drawn := w0.drawn + 1 } := ⟨rfl, rfl, rfl, Nat.le_refl _, fun _ _ => rfl⟩
  generalize ({ w0 with drawn := w0.drawn + 1 } : World) = w1 at *
  replace rp0 := keep hb rp0
  replace rp1 := keep hb rp1
  replace hw := Below.after hw hb
  clear hb
  apply cut_at2 0 #[true, true, true, true, true] (fun g W => w.heap.size + 1 < g ∧ W.heap[w.heap.size]? = some (.cells (rd m) 30 (0, 0)) ∧ W.heap[w.heap.size + 1]? = some (.cells #[.int .u64 0, .int .u64 0, .int .u64 0, .int .u64 0, .int .u64 0, .int .u64 0, .int .u64 0, .int .u64 0, .int .u64 0, .int .u64 0, .int .u64 0, .int .u64 0, .int .u64 0, .int .u64 0, .int .u64 0, .int .u64 0] 30 (0, 0)) ∧ W.heap[g]? = some (.cells (rd q0) 30 (0, 0)) ∧ Below w.heap.size w W)
  · intro key
    refine wpAny_ready (rs := [0, 1, 3]) (fuel := 4) (by kernel_rfl) (by simp) (AllReady.cons rfl (fun K' hK => ?_) (AllReady.cons rfl (fun K' hK => ?_) (AllReady.cons rfl (fun K' hK => ?_) AllReady.nil)))
    · skip
      rw [if_pos (by kernel_rfl)]
      simp only [List.getElem_toArray, List.getElem_cons_zero]
      refine wp_load_row 30 _ rfl (w.heap.size) rfl 30 (rd m) (0, 0) _ rp0 Tryd.underlying30 rfl (rd_info m) (hK _ _ ?_)
      simp only [Act.put, List.setIfInBounds_toArray, List.set_cons_succ, List.set_cons_zero]
      clear hK
      refine wpAny_ready (rs := [1, 3]) (fuel := 3) (by kernel_rfl) (by simp) (AllReady.cons rfl (fun K' hK => ?_) (AllReady.cons rfl (fun K' hK => ?_) AllReady.nil))
      · skip
        rw [if_pos (by kernel_rfl)]
        simp only [List.getElem_toArray, List.getElem_cons_succ, List.getElem_cons_zero]
        refine wp_call_ex (f := 54) (args := #[.int .i64 252, .int .i64 2]) (by kernel_rfl) (number_walk 252 2 (by decide) (by decide) (by decide) (by decide) w1) (fun v2 w2 ⟨hBv2, hb⟩ => hK _ _ ?_)
        simp only [Act.put, List.setIfInBounds_toArray, List.set_cons_succ, List.set_cons_zero]
        clear hK
        replace rp0 := keep hb rp0
        replace rp1 := keep hb rp1
        replace hw := Below.after hw hb
        clear hb
        refine wpAny_ready (rs := [2, 3]) (fuel := 2) (by kernel_rfl) (by simp) (AllReady.cons rfl (fun K' hK => ?_) (AllReady.cons rfl (fun K' hK => ?_) AllReady.nil))
        · skip
          rw [if_pos (by kernel_rfl)]
          simp only [List.getElem_toArray, List.getElem_cons_succ, List.getElem_cons_zero]
          refine wp_call_op (f := 31) (args := #[.agg (rd m), v2]) (by kernel_rfl) (c4 _ _ hBv2) (fun w3 hb => hK _ _ ?_)
          simp only [Act.put, List.setIfInBounds_toArray, List.set_cons_succ, List.set_cons_zero]
          clear hK
          replace rp0 := keep hb rp0
          replace rp1 := keep hb rp1
          replace hw := Below.after hw hb
          replace hBv2 := hBv2.keep hb
          clear hb
          refine wpAny_ready (rs := [3]) (fuel := 1) (by kernel_rfl) (by simp) (AllReady.cons rfl (fun K' hK => ?_) AllReady.nil)
          rw [if_pos (by kernel_rfl)]
          simp only [List.getElem_toArray, List.getElem_cons_succ, List.getElem_cons_zero]
          refine wp_world_op (.pointer (some ⟨w3.heap.size, 0, none⟩)) (w3.alloc (.cells #[.int .u64 0, .int .u64 0, .int .u64 0, .int .u64 0, .int .u64 0, .int .u64 0, .int .u64 0, .int .u64 0, .int .u64 0, .int .u64 0, .int .u64 0, .int .u64 0, .int .u64 0, .int .u64 0, .int .u64 0, .int .u64 0] 30)) (by kernel_rfl) (hK _ _ ?_)
          simp only [Act.put, List.setIfInBounds_toArray, List.set_cons_succ, List.set_cons_zero]
          clear hK
          have rg5 : (w3.alloc (.cells #[.int .u64 0, .int .u64 0, .int .u64 0, .int .u64 0, .int .u64 0, .int .u64 0, .int .u64 0, .int .u64 0, .int .u64 0, .int .u64 0, .int .u64 0, .int .u64 0, .int .u64 0, .int .u64 0, .int .u64 0, .int .u64 0] 30)).heap[w3.heap.size]? = some (.cells #[.int .u64 0, .int .u64 0, .int .u64 0, .int .u64 0, .int .u64 0, .int .u64 0, .int .u64 0, .int .u64 0, .int .u64 0, .int .u64 0, .int .u64 0, .int .u64 0, .int .u64 0, .int .u64 0, .int .u64 0, .int .u64 0] 30 (0, 0)) := hp1_0 w3 _
          have hb : Below w3.heap.size w3 (w3.alloc (.cells #[.int .u64 0, .int .u64 0, .int .u64 0, .int .u64 0, .int .u64 0, .int .u64 0, .int .u64 0, .int .u64 0, .int .u64 0, .int .u64 0, .int .u64 0, .int .u64 0, .int .u64 0, .int .u64 0, .int .u64 0, .int .u64 0] 30)) := (Below.refl _ _).alloc (Nat.le_refl _) _
          generalize (w3.alloc (.cells #[.int .u64 0, .int .u64 0, .int .u64 0, .int .u64 0, .int .u64 0, .int .u64 0, .int .u64 0, .int .u64 0, .int .u64 0, .int .u64 0, .int .u64 0, .int .u64 0, .int .u64 0, .int .u64 0, .int .u64 0, .int .u64 0] 30)) = w5 at *
          have ltg5 := lt_of_row rp1
          have yg5 := hw.size
          replace rp0 := keep hb rp0
          replace rp1 := keep hb rp1
          replace hw := Below.after hw hb
          replace hBv2 := hBv2.keep hb
          clear hb
          generalize w3.heap.size = g5 at *
          refine wpAny_ready (rs := [4]) (fuel := 0) (by kernel_rfl) (by simp) (AllReady.cons rfl (fun K' hK => ?_) AllReady.nil)
          rw [if_pos (by kernel_rfl)]
          simp only [List.getElem_toArray, List.getElem_cons_succ, List.getElem_cons_zero]
          refine wp_store_row 30 _ _ rfl (g5) (rd q0) rfl rfl 30 _ rg5 (rd_info q0) ((rd_size 0).trans (rd_size q0).symm) (rd_one q0) (hK _ _ ?_)
          simp only [Act.put]
          clear hK
          replace rp0 := (setRow_other w5 (g5) (w.heap.size) (rd q0) (by first | assumption | omega)).trans rp0
          replace rp1 := (setRow_other w5 (g5) (w.heap.size + 1) (rd q0) (by first | assumption | omega)).trans rp1
          replace rg5 := setRow_heap w5 (g5) _ (rd q0) _ _ rg5
          replace hw := below_setRow hw (show w.heap.size ≤ g5 by first | assumption | omega) (rd q0)
          generalize w5.setRow (g5) (rd q0) = w6 at *
          exact cut_to (key g5 v2 _ ⟨ltg5, rp0, rp1, rg5, hw⟩) (by kernel_rfl)
        · skip
          rw [if_pos (by kernel_rfl)]
          simp only [List.getElem_toArray, List.getElem_cons_succ, List.getElem_cons_zero]
          refine wp_world_op (.pointer (some ⟨w2.heap.size, 0, none⟩)) (w2.alloc (.cells #[.int .u64 0, .int .u64 0, .int .u64 0, .int .u64 0, .int .u64 0, .int .u64 0, .int .u64 0, .int .u64 0, .int .u64 0, .int .u64 0, .int .u64 0, .int .u64 0, .int .u64 0, .int .u64 0, .int .u64 0, .int .u64 0] 30)) (by kernel_rfl) (hK _ _ ?_)
          simp only [Act.put, List.setIfInBounds_toArray, List.set_cons_succ, List.set_cons_zero]
          clear hK
          have rg7 : (w2.alloc (.cells #[.int .u64 0, .int .u64 0, .int .u64 0, .int .u64 0, .int .u64 0, .int .u64 0, .int .u64 0, .int .u64 0, .int .u64 0, .int .u64 0, .int .u64 0, .int .u64 0, .int .u64 0, .int .u64 0, .int .u64 0, .int .u64 0] 30)).heap[w2.heap.size]? = some (.cells #[.int .u64 0, .int .u64 0, .int .u64 0, .int .u64 0, .int .u64 0, .int .u64 0, .int .u64 0, .int .u64 0, .int .u64 0, .int .u64 0, .int .u64 0, .int .u64 0, .int .u64 0, .int .u64 0, .int .u64 0, .int .u64 0] 30 (0, 0)) := hp1_0 w2 _
          have hb : Below w2.heap.size w2 (w2.alloc (.cells #[.int .u64 0, .int .u64 0, .int .u64 0, .int .u64 0, .int .u64 0, .int .u64 0, .int .u64 0, .int .u64 0, .int .u64 0, .int .u64 0, .int .u64 0, .int .u64 0, .int .u64 0, .int .u64 0, .int .u64 0, .int .u64 0] 30)) := (Below.refl _ _).alloc (Nat.le_refl _) _
          generalize (w2.alloc (.cells #[.int .u64 0, .int .u64 0, .int .u64 0, .int .u64 0, .int .u64 0, .int .u64 0, .int .u64 0, .int .u64 0, .int .u64 0, .int .u64 0, .int .u64 0, .int .u64 0, .int .u64 0, .int .u64 0, .int .u64 0, .int .u64 0] 30)) = w7 at *
          have ltg7 := lt_of_row rp1
          have yg7 := hw.size
          replace rp0 := keep hb rp0
          replace rp1 := keep hb rp1
          replace hw := Below.after hw hb
          replace hBv2 := hBv2.keep hb
          clear hb
          generalize w2.heap.size = g7 at *
          refine wpAny_ready (rs := [2]) (fuel := 1) (by kernel_rfl) (by simp) (AllReady.cons rfl (fun K' hK => ?_) AllReady.nil)
          rw [if_pos (by kernel_rfl)]
          simp only [List.getElem_toArray, List.getElem_cons_succ, List.getElem_cons_zero]
          refine wp_call_op (f := 31) (args := #[.agg (rd m), v2]) (by kernel_rfl) (c4 _ _ hBv2) (fun w8 hb => hK _ _ ?_)
          simp only [Act.put, List.setIfInBounds_toArray, List.set_cons_succ, List.set_cons_zero]
          clear hK
          replace rp0 := keep hb rp0
          replace rp1 := keep hb rp1
          replace rg7 := keep hb rg7
          replace hw := Below.after hw hb
          replace hBv2 := hBv2.keep hb
          clear hb
          refine wpAny_ready (rs := [4]) (fuel := 0) (by kernel_rfl) (by simp) (AllReady.cons rfl (fun K' hK => ?_) AllReady.nil)
          rw [if_pos (by kernel_rfl)]
          simp only [List.getElem_toArray, List.getElem_cons_succ, List.getElem_cons_zero]
          refine wp_store_row 30 _ _ rfl (g7) (rd q0) rfl rfl 30 _ rg7 (rd_info q0) ((rd_size 0).trans (rd_size q0).symm) (rd_one q0) (hK _ _ ?_)
          simp only [Act.put]
          clear hK
          replace rp0 := (setRow_other w8 (g7) (w.heap.size) (rd q0) (by first | assumption | omega)).trans rp0
          replace rp1 := (setRow_other w8 (g7) (w.heap.size + 1) (rd q0) (by first | assumption | omega)).trans rp1
          replace rg7 := setRow_heap w8 (g7) _ (rd q0) _ _ rg7
          replace hw := below_setRow hw (show w.heap.size ≤ g7 by first | assumption | omega) (rd q0)
          generalize w8.setRow (g7) (rd q0) = w9 at *
          exact cut_to (key g7 v2 _ ⟨ltg7, rp0, rp1, rg7, hw⟩) (by kernel_rfl)
      · skip
        rw [if_pos (by kernel_rfl)]
        simp only [List.getElem_toArray, List.getElem_cons_succ, List.getElem_cons_zero]
        refine wp_world_op (.pointer (some ⟨w1.heap.size, 0, none⟩)) (w1.alloc (.cells #[.int .u64 0, .int .u64 0, .int .u64 0, .int .u64 0, .int .u64 0, .int .u64 0, .int .u64 0, .int .u64 0, .int .u64 0, .int .u64 0, .int .u64 0, .int .u64 0, .int .u64 0, .int .u64 0, .int .u64 0, .int .u64 0] 30)) (by kernel_rfl) (hK _ _ ?_)
        simp only [Act.put, List.setIfInBounds_toArray, List.set_cons_succ, List.set_cons_zero]
        clear hK
        have rg10 : (w1.alloc (.cells #[.int .u64 0, .int .u64 0, .int .u64 0, .int .u64 0, .int .u64 0, .int .u64 0, .int .u64 0, .int .u64 0, .int .u64 0, .int .u64 0, .int .u64 0, .int .u64 0, .int .u64 0, .int .u64 0, .int .u64 0, .int .u64 0] 30)).heap[w1.heap.size]? = some (.cells #[.int .u64 0, .int .u64 0, .int .u64 0, .int .u64 0, .int .u64 0, .int .u64 0, .int .u64 0, .int .u64 0, .int .u64 0, .int .u64 0, .int .u64 0, .int .u64 0, .int .u64 0, .int .u64 0, .int .u64 0, .int .u64 0] 30 (0, 0)) := hp1_0 w1 _
        have hb : Below w1.heap.size w1 (w1.alloc (.cells #[.int .u64 0, .int .u64 0, .int .u64 0, .int .u64 0, .int .u64 0, .int .u64 0, .int .u64 0, .int .u64 0, .int .u64 0, .int .u64 0, .int .u64 0, .int .u64 0, .int .u64 0, .int .u64 0, .int .u64 0, .int .u64 0] 30)) := (Below.refl _ _).alloc (Nat.le_refl _) _
        generalize (w1.alloc (.cells #[.int .u64 0, .int .u64 0, .int .u64 0, .int .u64 0, .int .u64 0, .int .u64 0, .int .u64 0, .int .u64 0, .int .u64 0, .int .u64 0, .int .u64 0, .int .u64 0, .int .u64 0, .int .u64 0, .int .u64 0, .int .u64 0] 30)) = w10 at *
        have ltg10 := lt_of_row rp1
        have yg10 := hw.size
        replace rp0 := keep hb rp0
        replace rp1 := keep hb rp1
        replace hw := Below.after hw hb
        clear hb
        generalize w1.heap.size = g10 at *
        refine wpAny_ready (rs := [1]) (fuel := 2) (by kernel_rfl) (by simp) (AllReady.cons rfl (fun K' hK => ?_) AllReady.nil)
        rw [if_pos (by kernel_rfl)]
        simp only [List.getElem_toArray, List.getElem_cons_succ, List.getElem_cons_zero]
        refine wp_call_ex (f := 54) (args := #[.int .i64 252, .int .i64 2]) (by kernel_rfl) (number_walk 252 2 (by decide) (by decide) (by decide) (by decide) w10) (fun v11 w11 ⟨hBv11, hb⟩ => hK _ _ ?_)
        simp only [Act.put, List.setIfInBounds_toArray, List.set_cons_succ, List.set_cons_zero]
        clear hK
        replace rp0 := keep hb rp0
        replace rp1 := keep hb rp1
        replace rg10 := keep hb rg10
        replace hw := Below.after hw hb
        clear hb
        refine wpAny_ready (rs := [2]) (fuel := 1) (by kernel_rfl) (by simp) (AllReady.cons rfl (fun K' hK => ?_) AllReady.nil)
        rw [if_pos (by kernel_rfl)]
        simp only [List.getElem_toArray, List.getElem_cons_succ, List.getElem_cons_zero]
        refine wp_call_op (f := 31) (args := #[.agg (rd m), v11]) (by kernel_rfl) (c4 _ _ hBv11) (fun w12 hb => hK _ _ ?_)
        simp only [Act.put, List.setIfInBounds_toArray, List.set_cons_succ, List.set_cons_zero]
        clear hK
        replace rp0 := keep hb rp0
        replace rp1 := keep hb rp1
        replace rg10 := keep hb rg10
        replace hw := Below.after hw hb
        replace hBv11 := hBv11.keep hb
        clear hb
        refine wpAny_ready (rs := [4]) (fuel := 0) (by kernel_rfl) (by simp) (AllReady.cons rfl (fun K' hK => ?_) AllReady.nil)
        rw [if_pos (by kernel_rfl)]
        simp only [List.getElem_toArray, List.getElem_cons_succ, List.getElem_cons_zero]
        refine wp_store_row 30 _ _ rfl (g10) (rd q0) rfl rfl 30 _ rg10 (rd_info q0) ((rd_size 0).trans (rd_size q0).symm) (rd_one q0) (hK _ _ ?_)
        simp only [Act.put]
        clear hK
        replace rp0 := (setRow_other w12 (g10) (w.heap.size) (rd q0) (by first | assumption | omega)).trans rp0
        replace rp1 := (setRow_other w12 (g10) (w.heap.size + 1) (rd q0) (by first | assumption | omega)).trans rp1
        replace rg10 := setRow_heap w12 (g10) _ (rd q0) _ _ rg10
        replace hw := below_setRow hw (show w.heap.size ≤ g10 by first | assumption | omega) (rd q0)
        generalize w12.setRow (g10) (rd q0) = w13 at *
        exact cut_to (key g10 v11 _ ⟨ltg10, rp0, rp1, rg10, hw⟩) (by kernel_rfl)
    · skip
      rw [if_pos (by kernel_rfl)]
      simp only [List.getElem_toArray, List.getElem_cons_succ, List.getElem_cons_zero]
      refine wp_call_ex (f := 54) (args := #[.int .i64 252, .int .i64 2]) (by kernel_rfl) (number_walk 252 2 (by decide) (by decide) (by decide) (by decide) w1) (fun v14 w14 ⟨hBv14, hb⟩ => hK _ _ ?_)
      simp only [Act.put, List.setIfInBounds_toArray, List.set_cons_succ, List.set_cons_zero]
      clear hK
      replace rp0 := keep hb rp0
      replace rp1 := keep hb rp1
      replace hw := Below.after hw hb
      clear hb
      refine wpAny_ready (rs := [0, 3]) (fuel := 3) (by kernel_rfl) (by simp) (AllReady.cons rfl (fun K' hK => ?_) (AllReady.cons rfl (fun K' hK => ?_) AllReady.nil))
      · skip
        rw [if_pos (by kernel_rfl)]
        simp only [List.getElem_toArray, List.getElem_cons_zero]
        refine wp_load_row 30 _ rfl (w.heap.size) rfl 30 (rd m) (0, 0) _ rp0 Tryd.underlying30 rfl (rd_info m) (hK _ _ ?_)
        simp only [Act.put, List.setIfInBounds_toArray, List.set_cons_succ, List.set_cons_zero]
        clear hK
        refine wpAny_ready (rs := [2, 3]) (fuel := 2) (by kernel_rfl) (by simp) (AllReady.cons rfl (fun K' hK => ?_) (AllReady.cons rfl (fun K' hK => ?_) AllReady.nil))
        · skip
          rw [if_pos (by kernel_rfl)]
          simp only [List.getElem_toArray, List.getElem_cons_succ, List.getElem_cons_zero]
          refine wp_call_op (f := 31) (args := #[.agg (rd m), v14]) (by kernel_rfl) (c4 _ _ hBv14) (fun w15 hb => hK _ _ ?_)
          simp only [Act.put, List.setIfInBounds_toArray, List.set_cons_succ, List.set_cons_zero]
          clear hK
          replace rp0 := keep hb rp0
          replace rp1 := keep hb rp1
          replace hw := Below.after hw hb
          replace hBv14 := hBv14.keep hb
          clear hb
          refine wpAny_ready (rs := [3]) (fuel := 1) (by kernel_rfl) (by simp) (AllReady.cons rfl (fun K' hK => ?_) AllReady.nil)
          rw [if_pos (by kernel_rfl)]
          simp only [List.getElem_toArray, List.getElem_cons_succ, List.getElem_cons_zero]
          refine wp_world_op (.pointer (some ⟨w15.heap.size, 0, none⟩)) (w15.alloc (.cells #[.int .u64 0, .int .u64 0, .int .u64 0, .int .u64 0, .int .u64 0, .int .u64 0, .int .u64 0, .int .u64 0, .int .u64 0, .int .u64 0, .int .u64 0, .int .u64 0, .int .u64 0, .int .u64 0, .int .u64 0, .int .u64 0] 30)) (by kernel_rfl) (hK _ _ ?_)
          simp only [Act.put, List.setIfInBounds_toArray, List.set_cons_succ, List.set_cons_zero]
          clear hK
          have rg16 : (w15.alloc (.cells #[.int .u64 0, .int .u64 0, .int .u64 0, .int .u64 0, .int .u64 0, .int .u64 0, .int .u64 0, .int .u64 0, .int .u64 0, .int .u64 0, .int .u64 0, .int .u64 0, .int .u64 0, .int .u64 0, .int .u64 0, .int .u64 0] 30)).heap[w15.heap.size]? = some (.cells #[.int .u64 0, .int .u64 0, .int .u64 0, .int .u64 0, .int .u64 0, .int .u64 0, .int .u64 0, .int .u64 0, .int .u64 0, .int .u64 0, .int .u64 0, .int .u64 0, .int .u64 0, .int .u64 0, .int .u64 0, .int .u64 0] 30 (0, 0)) := hp1_0 w15 _
          have hb : Below w15.heap.size w15 (w15.alloc (.cells #[.int .u64 0, .int .u64 0, .int .u64 0, .int .u64 0, .int .u64 0, .int .u64 0, .int .u64 0, .int .u64 0, .int .u64 0, .int .u64 0, .int .u64 0, .int .u64 0, .int .u64 0, .int .u64 0, .int .u64 0, .int .u64 0] 30)) := (Below.refl _ _).alloc (Nat.le_refl _) _
          generalize (w15.alloc (.cells #[.int .u64 0, .int .u64 0, .int .u64 0, .int .u64 0, .int .u64 0, .int .u64 0, .int .u64 0, .int .u64 0, .int .u64 0, .int .u64 0, .int .u64 0, .int .u64 0, .int .u64 0, .int .u64 0, .int .u64 0, .int .u64 0] 30)) = w16 at *
          have ltg16 := lt_of_row rp1
          have yg16 := hw.size
          replace rp0 := keep hb rp0
          replace rp1 := keep hb rp1
          replace hw := Below.after hw hb
          replace hBv14 := hBv14.keep hb
          clear hb
          generalize w15.heap.size = g16 at *
          refine wpAny_ready (rs := [4]) (fuel := 0) (by kernel_rfl) (by simp) (AllReady.cons rfl (fun K' hK => ?_) AllReady.nil)
          rw [if_pos (by kernel_rfl)]
          simp only [List.getElem_toArray, List.getElem_cons_succ, List.getElem_cons_zero]
          refine wp_store_row 30 _ _ rfl (g16) (rd q0) rfl rfl 30 _ rg16 (rd_info q0) ((rd_size 0).trans (rd_size q0).symm) (rd_one q0) (hK _ _ ?_)
          simp only [Act.put]
          clear hK
          replace rp0 := (setRow_other w16 (g16) (w.heap.size) (rd q0) (by first | assumption | omega)).trans rp0
          replace rp1 := (setRow_other w16 (g16) (w.heap.size + 1) (rd q0) (by first | assumption | omega)).trans rp1
          replace rg16 := setRow_heap w16 (g16) _ (rd q0) _ _ rg16
          replace hw := below_setRow hw (show w.heap.size ≤ g16 by first | assumption | omega) (rd q0)
          generalize w16.setRow (g16) (rd q0) = w17 at *
          exact cut_to (key g16 v14 _ ⟨ltg16, rp0, rp1, rg16, hw⟩) (by kernel_rfl)
        · skip
          rw [if_pos (by kernel_rfl)]
          simp only [List.getElem_toArray, List.getElem_cons_succ, List.getElem_cons_zero]
          refine wp_world_op (.pointer (some ⟨w14.heap.size, 0, none⟩)) (w14.alloc (.cells #[.int .u64 0, .int .u64 0, .int .u64 0, .int .u64 0, .int .u64 0, .int .u64 0, .int .u64 0, .int .u64 0, .int .u64 0, .int .u64 0, .int .u64 0, .int .u64 0, .int .u64 0, .int .u64 0, .int .u64 0, .int .u64 0] 30)) (by kernel_rfl) (hK _ _ ?_)
          simp only [Act.put, List.setIfInBounds_toArray, List.set_cons_succ, List.set_cons_zero]
          clear hK
          have rg18 : (w14.alloc (.cells #[.int .u64 0, .int .u64 0, .int .u64 0, .int .u64 0, .int .u64 0, .int .u64 0, .int .u64 0, .int .u64 0, .int .u64 0, .int .u64 0, .int .u64 0, .int .u64 0, .int .u64 0, .int .u64 0, .int .u64 0, .int .u64 0] 30)).heap[w14.heap.size]? = some (.cells #[.int .u64 0, .int .u64 0, .int .u64 0, .int .u64 0, .int .u64 0, .int .u64 0, .int .u64 0, .int .u64 0, .int .u64 0, .int .u64 0, .int .u64 0, .int .u64 0, .int .u64 0, .int .u64 0, .int .u64 0, .int .u64 0] 30 (0, 0)) := hp1_0 w14 _
          have hb : Below w14.heap.size w14 (w14.alloc (.cells #[.int .u64 0, .int .u64 0, .int .u64 0, .int .u64 0, .int .u64 0, .int .u64 0, .int .u64 0, .int .u64 0, .int .u64 0, .int .u64 0, .int .u64 0, .int .u64 0, .int .u64 0, .int .u64 0, .int .u64 0, .int .u64 0] 30)) := (Below.refl _ _).alloc (Nat.le_refl _) _
          generalize (w14.alloc (.cells #[.int .u64 0, .int .u64 0, .int .u64 0, .int .u64 0, .int .u64 0, .int .u64 0, .int .u64 0, .int .u64 0, .int .u64 0, .int .u64 0, .int .u64 0, .int .u64 0, .int .u64 0, .int .u64 0, .int .u64 0, .int .u64 0] 30)) = w18 at *
          have ltg18 := lt_of_row rp1
          have yg18 := hw.size
          replace rp0 := keep hb rp0
          replace rp1 := keep hb rp1
          replace hw := Below.after hw hb
          replace hBv14 := hBv14.keep hb
          clear hb
          generalize w14.heap.size = g18 at *
          refine wpAny_ready (rs := [2]) (fuel := 1) (by kernel_rfl) (by simp) (AllReady.cons rfl (fun K' hK => ?_) AllReady.nil)
          rw [if_pos (by kernel_rfl)]
          simp only [List.getElem_toArray, List.getElem_cons_succ, List.getElem_cons_zero]
          refine wp_call_op (f := 31) (args := #[.agg (rd m), v14]) (by kernel_rfl) (c4 _ _ hBv14) (fun w19 hb => hK _ _ ?_)
          simp only [Act.put, List.setIfInBounds_toArray, List.set_cons_succ, List.set_cons_zero]
          clear hK
          replace rp0 := keep hb rp0
          replace rp1 := keep hb rp1
          replace rg18 := keep hb rg18
          replace hw := Below.after hw hb
          replace hBv14 := hBv14.keep hb
          clear hb
          refine wpAny_ready (rs := [4]) (fuel := 0) (by kernel_rfl) (by simp) (AllReady.cons rfl (fun K' hK => ?_) AllReady.nil)
          rw [if_pos (by kernel_rfl)]
          simp only [List.getElem_toArray, List.getElem_cons_succ, List.getElem_cons_zero]
          refine wp_store_row 30 _ _ rfl (g18) (rd q0) rfl rfl 30 _ rg18 (rd_info q0) ((rd_size 0).trans (rd_size q0).symm) (rd_one q0) (hK _ _ ?_)
          simp only [Act.put]
          clear hK
          replace rp0 := (setRow_other w19 (g18) (w.heap.size) (rd q0) (by first | assumption | omega)).trans rp0
          replace rp1 := (setRow_other w19 (g18) (w.heap.size + 1) (rd q0) (by first | assumption | omega)).trans rp1
          replace rg18 := setRow_heap w19 (g18) _ (rd q0) _ _ rg18
          replace hw := below_setRow hw (show w.heap.size ≤ g18 by first | assumption | omega) (rd q0)
          generalize w19.setRow (g18) (rd q0) = w20 at *
          exact cut_to (key g18 v14 _ ⟨ltg18, rp0, rp1, rg18, hw⟩) (by kernel_rfl)
      · skip
        rw [if_pos (by kernel_rfl)]
        simp only [List.getElem_toArray, List.getElem_cons_succ, List.getElem_cons_zero]
        refine wp_world_op (.pointer (some ⟨w14.heap.size, 0, none⟩)) (w14.alloc (.cells #[.int .u64 0, .int .u64 0, .int .u64 0, .int .u64 0, .int .u64 0, .int .u64 0, .int .u64 0, .int .u64 0, .int .u64 0, .int .u64 0, .int .u64 0, .int .u64 0, .int .u64 0, .int .u64 0, .int .u64 0, .int .u64 0] 30)) (by kernel_rfl) (hK _ _ ?_)
        simp only [Act.put, List.setIfInBounds_toArray, List.set_cons_succ, List.set_cons_zero]
        clear hK
        have rg21 : (w14.alloc (.cells #[.int .u64 0, .int .u64 0, .int .u64 0, .int .u64 0, .int .u64 0, .int .u64 0, .int .u64 0, .int .u64 0, .int .u64 0, .int .u64 0, .int .u64 0, .int .u64 0, .int .u64 0, .int .u64 0, .int .u64 0, .int .u64 0] 30)).heap[w14.heap.size]? = some (.cells #[.int .u64 0, .int .u64 0, .int .u64 0, .int .u64 0, .int .u64 0, .int .u64 0, .int .u64 0, .int .u64 0, .int .u64 0, .int .u64 0, .int .u64 0, .int .u64 0, .int .u64 0, .int .u64 0, .int .u64 0, .int .u64 0] 30 (0, 0)) := hp1_0 w14 _
        have hb : Below w14.heap.size w14 (w14.alloc (.cells #[.int .u64 0, .int .u64 0, .int .u64 0, .int .u64 0, .int .u64 0, .int .u64 0, .int .u64 0, .int .u64 0, .int .u64 0, .int .u64 0, .int .u64 0, .int .u64 0, .int .u64 0, .int .u64 0, .int .u64 0, .int .u64 0] 30)) := (Below.refl _ _).alloc (Nat.le_refl _) _
        generalize (w14.alloc (.cells #[.int .u64 0, .int .u64 0, .int .u64 0, .int .u64 0, .int .u64 0, .int .u64 0, .int .u64 0, .int .u64 0, .int .u64 0, .int .u64 0, .int .u64 0, .int .u64 0, .int .u64 0, .int .u64 0, .int .u64 0, .int .u64 0] 30)) = w21 at *
        have ltg21 := lt_of_row rp1
        have yg21 := hw.size
        replace rp0 := keep hb rp0
        replace rp1 := keep hb rp1
        replace hw := Below.after hw hb
        replace hBv14 := hBv14.keep hb
        clear hb
        generalize w14.heap.size = g21 at *
        refine wpAny_ready (rs := [0]) (fuel := 2) (by kernel_rfl) (by simp) (AllReady.cons rfl (fun K' hK => ?_) AllReady.nil)
        rw [if_pos (by kernel_rfl)]
        simp only [List.getElem_toArray, List.getElem_cons_zero]
        refine wp_load_row 30 _ rfl (w.heap.size) rfl 30 (rd m) (0, 0) _ rp0 Tryd.underlying30 rfl (rd_info m) (hK _ _ ?_)
        simp only [Act.put, List.setIfInBounds_toArray, List.set_cons_succ, List.set_cons_zero]
        clear hK
        refine wpAny_ready (rs := [2]) (fuel := 1) (by kernel_rfl) (by simp) (AllReady.cons rfl (fun K' hK => ?_) AllReady.nil)
        rw [if_pos (by kernel_rfl)]
        simp only [List.getElem_toArray, List.getElem_cons_succ, List.getElem_cons_zero]
        refine wp_call_op (f := 31) (args := #[.agg (rd m), v14]) (by kernel_rfl) (c4 _ _ hBv14) (fun w22 hb => hK _ _ ?_)
        simp only [Act.put, List.setIfInBounds_toArray, List.set_cons_succ, List.set_cons_zero]
        clear hK
        replace rp0 := keep hb rp0
        replace rp1 := keep hb rp1
        replace rg21 := keep hb rg21
        replace hw := Below.after hw hb
        replace hBv14 := hBv14.keep hb
        clear hb
        refine wpAny_ready (rs := [4]) (fuel := 0) (by kernel_rfl) (by simp) (AllReady.cons rfl (fun K' hK => ?_) AllReady.nil)
        rw [if_pos (by kernel_rfl)]
        simp only [List.getElem_toArray, List.getElem_cons_succ, List.getElem_cons_zero]
        refine wp_store_row 30 _ _ rfl (g21) (rd q0) rfl rfl 30 _ rg21 (rd_info q0) ((rd_size 0).trans (rd_size q0).symm) (rd_one q0) (hK _ _ ?_)
        simp only [Act.put]
        clear hK
        replace rp0 := (setRow_other w22 (g21) (w.heap.size) (rd q0) (by first | assumption | omega)).trans rp0
        replace rp1 := (setRow_other w22 (g21) (w.heap.size + 1) (rd q0) (by first | assumption | omega)).trans rp1
        replace rg21 := setRow_heap w22 (g21) _ (rd q0) _ _ rg21
        replace hw := below_setRow hw (show w.heap.size ≤ g21 by first | assumption | omega) (rd q0)
        generalize w22.setRow (g21) (rd q0) = w23 at *
        exact cut_to (key g21 v14 _ ⟨ltg21, rp0, rp1, rg21, hw⟩) (by kernel_rfl)
    · skip
      rw [if_pos (by kernel_rfl)]
      simp only [List.getElem_toArray, List.getElem_cons_succ, List.getElem_cons_zero]
      refine wp_world_op (.pointer (some ⟨w1.heap.size, 0, none⟩)) (w1.alloc (.cells #[.int .u64 0, .int .u64 0, .int .u64 0, .int .u64 0, .int .u64 0, .int .u64 0, .int .u64 0, .int .u64 0, .int .u64 0, .int .u64 0, .int .u64 0, .int .u64 0, .int .u64 0, .int .u64 0, .int .u64 0, .int .u64 0] 30)) (by kernel_rfl) (hK _ _ ?_)
      simp only [Act.put, List.setIfInBounds_toArray, List.set_cons_succ, List.set_cons_zero]
      clear hK
      have rg24 : (w1.alloc (.cells #[.int .u64 0, .int .u64 0, .int .u64 0, .int .u64 0, .int .u64 0, .int .u64 0, .int .u64 0, .int .u64 0, .int .u64 0, .int .u64 0, .int .u64 0, .int .u64 0, .int .u64 0, .int .u64 0, .int .u64 0, .int .u64 0] 30)).heap[w1.heap.size]? = some (.cells #[.int .u64 0, .int .u64 0, .int .u64 0, .int .u64 0, .int .u64 0, .int .u64 0, .int .u64 0, .int .u64 0, .int .u64 0, .int .u64 0, .int .u64 0, .int .u64 0, .int .u64 0, .int .u64 0, .int .u64 0, .int .u64 0] 30 (0, 0)) := hp1_0 w1 _
      have hb : Below w1.heap.size w1 (w1.alloc (.cells #[.int .u64 0, .int .u64 0, .int .u64 0, .int .u64 0, .int .u64 0, .int .u64 0, .int .u64 0, .int .u64 0, .int .u64 0, .int .u64 0, .int .u64 0, .int .u64 0, .int .u64 0, .int .u64 0, .int .u64 0, .int .u64 0] 30)) := (Below.refl _ _).alloc (Nat.le_refl _) _
      generalize (w1.alloc (.cells #[.int .u64 0, .int .u64 0, .int .u64 0, .int .u64 0, .int .u64 0, .int .u64 0, .int .u64 0, .int .u64 0, .int .u64 0, .int .u64 0, .int .u64 0, .int .u64 0, .int .u64 0, .int .u64 0, .int .u64 0, .int .u64 0] 30)) = w24 at *
      have ltg24 := lt_of_row rp1
      have yg24 := hw.size
      replace rp0 := keep hb rp0
      replace rp1 := keep hb rp1
      replace hw := Below.after hw hb
      clear hb
      generalize w1.heap.size = g24 at *
      refine wpAny_ready (rs := [0, 1]) (fuel := 3) (by kernel_rfl) (by simp) (AllReady.cons rfl (fun K' hK => ?_) (AllReady.cons rfl (fun K' hK => ?_) AllReady.nil))
      · skip
        rw [if_pos (by kernel_rfl)]
        simp only [List.getElem_toArray, List.getElem_cons_zero]
        refine wp_load_row 30 _ rfl (w.heap.size) rfl 30 (rd m) (0, 0) _ rp0 Tryd.underlying30 rfl (rd_info m) (hK _ _ ?_)
        simp only [Act.put, List.setIfInBounds_toArray, List.set_cons_succ, List.set_cons_zero]
        clear hK
        refine wpAny_ready (rs := [1]) (fuel := 2) (by kernel_rfl) (by simp) (AllReady.cons rfl (fun K' hK => ?_) AllReady.nil)
        rw [if_pos (by kernel_rfl)]
        simp only [List.getElem_toArray, List.getElem_cons_succ, List.getElem_cons_zero]
        refine wp_call_ex (f := 54) (args := #[.int .i64 252, .int .i64 2]) (by kernel_rfl) (number_walk 252 2 (by decide) (by decide) (by decide) (by decide) w24) (fun v25 w25 ⟨hBv25, hb⟩ => hK _ _ ?_)
        simp only [Act.put, List.setIfInBounds_toArray, List.set_cons_succ, List.set_cons_zero]
        clear hK
        replace rp0 := keep hb rp0
        replace rp1 := keep hb rp1
        replace rg24 := keep hb rg24
        replace hw := Below.after hw hb
        clear hb
        refine wpAny_ready (rs := [2]) (fuel := 1) (by kernel_rfl) (by simp) (AllReady.cons rfl (fun K' hK => ?_) AllReady.nil)
        rw [if_pos (by kernel_rfl)]
        simp only [List.getElem_toArray, List.getElem_cons_succ, List.getElem_cons_zero]
        refine wp_call_op (f := 31) (args := #[.agg (rd m), v25]) (by kernel_rfl) (c4 _ _ hBv25) (fun w26 hb => hK _ _ ?_)
        simp only [Act.put, List.setIfInBounds_toArray, List.set_cons_succ, List.set_cons_zero]
        clear hK
        replace rp0 := keep hb rp0
        replace rp1 := keep hb rp1
        replace rg24 := keep hb rg24
        replace hw := Below.after hw hb
        replace hBv25 := hBv25.keep hb
        clear hb
        refine wpAny_ready (rs := [4]) (fuel := 0) (by kernel_rfl) (by simp) (AllReady.cons rfl (fun K' hK => ?_) AllReady.nil)
        rw [if_pos (by kernel_rfl)]
        simp only [List.getElem_toArray, List.getElem_cons_succ, List.getElem_cons_zero]
        refine wp_store_row 30 _ _ rfl (g24) (rd q0) rfl rfl 30 _ rg24 (rd_info q0) ((rd_size 0).trans (rd_size q0).symm) (rd_one q0) (hK _ _ ?_)
        simp only [Act.put]
        clear hK
        replace rp0 := (setRow_other w26 (g24) (w.heap.size) (rd q0) (by first | assumption | omega)).trans rp0
        replace rp1 := (setRow_other w26 (g24) (w.heap.size + 1) (rd q0) (by first | assumption | omega)).trans rp1
        replace rg24 := setRow_heap w26 (g24) _ (rd q0) _ _ rg24
        replace hw := below_setRow hw (show w.heap.size ≤ g24 by first | assumption | omega) (rd q0)
        generalize w26.setRow (g24) (rd q0) = w27 at *
        exact cut_to (key g24 v25 _ ⟨ltg24, rp0, rp1, rg24, hw⟩) (by kernel_rfl)
      · skip
        rw [if_pos (by kernel_rfl)]
        simp only [List.getElem_toArray, List.getElem_cons_succ, List.getElem_cons_zero]
        refine wp_call_ex (f := 54) (args := #[.int .i64 252, .int .i64 2]) (by kernel_rfl) (number_walk 252 2 (by decide) (by decide) (by decide) (by decide) w24) (fun v28 w28 ⟨hBv28, hb⟩ => hK _ _ ?_)
        simp only [Act.put, List.setIfInBounds_toArray, List.set_cons_succ, List.set_cons_zero]
        clear hK
        replace rp0 := keep hb rp0
        replace rp1 := keep hb rp1
        replace rg24 := keep hb rg24
        replace hw := Below.after hw hb
        clear hb
        refine wpAny_ready (rs := [0]) (fuel := 2) (by kernel_rfl) (by simp) (AllReady.cons rfl (fun K' hK => ?_) AllReady.nil)
        rw [if_pos (by kernel_rfl)]
        simp only [List.getElem_toArray, List.getElem_cons_zero]
        refine wp_load_row 30 _ rfl (w.heap.size) rfl 30 (rd m) (0, 0) _ rp0 Tryd.underlying30 rfl (rd_info m) (hK _ _ ?_)
        simp only [Act.put, List.setIfInBounds_toArray, List.set_cons_succ, List.set_cons_zero]
        clear hK
        refine wpAny_ready (rs := [2]) (fuel := 1) (by kernel_rfl) (by simp) (AllReady.cons rfl (fun K' hK => ?_) AllReady.nil)
        rw [if_pos (by kernel_rfl)]
        simp only [List.getElem_toArray, List.getElem_cons_succ, List.getElem_cons_zero]
        refine wp_call_op (f := 31) (args := #[.agg (rd m), v28]) (by kernel_rfl) (c4 _ _ hBv28) (fun w29 hb => hK _ _ ?_)
        simp only [Act.put, List.setIfInBounds_toArray, List.set_cons_succ, List.set_cons_zero]
        clear hK
        replace rp0 := keep hb rp0
        replace rp1 := keep hb rp1
        replace rg24 := keep hb rg24
        replace hw := Below.after hw hb
        replace hBv28 := hBv28.keep hb
        clear hb
        refine wpAny_ready (rs := [4]) (fuel := 0) (by kernel_rfl) (by simp) (AllReady.cons rfl (fun K' hK => ?_) AllReady.nil)
        rw [if_pos (by kernel_rfl)]
        simp only [List.getElem_toArray, List.getElem_cons_succ, List.getElem_cons_zero]
        refine wp_store_row 30 _ _ rfl (g24) (rd q0) rfl rfl 30 _ rg24 (rd_info q0) ((rd_size 0).trans (rd_size q0).symm) (rd_one q0) (hK _ _ ?_)
        simp only [Act.put]
        clear hK
        replace rp0 := (setRow_other w29 (g24) (w.heap.size) (rd q0) (by first | assumption | omega)).trans rp0
        replace rp1 := (setRow_other w29 (g24) (w.heap.size + 1) (rd q0) (by first | assumption | omega)).trans rp1
        replace rg24 := setRow_heap w29 (g24) _ (rd q0) _ _ rg24
        replace hw := below_setRow hw (show w.heap.size ≤ g24 by first | assumption | omega) (rd q0)
        generalize w29.setRow (g24) (rd q0) = w30 at *
        exact cut_to (key g24 v28 _ ⟨ltg24, rp0, rp1, rg24, hw⟩) (by kernel_rfl)
  · clear rp0 rp1 hw
    intro g4 v31 w31 ⟨ltg4, rp0, rp1, rg4, hw⟩
    have yg4 : w.heap.size ≤ g4 := by omega
    refine wpAny_done (by kernel_rfl) ?_ _
    go_wp2
    have Hrp0 := keepr rp0
    have Hrp1 := keepr rp1
    have Hrg4 := keepr rg4
    refine wp_region_quiet_below (by kernel_rfl) (by kernel_rfl) ?_
    refine wpQuiet_load_row rfl 30 _ rfl (g4) rfl 30 (rd q0) (0, 0) _ Hrg4.out Tryd.underlying30 rfl (rd_info q0) ?_
    simp only [Act.put, List.setIfInBounds_toArray, List.set_cons_succ, List.set_cons_zero]
    go_big_quiet_step (exact c33.re)
    refine wpQuiet_load_row rfl 30 _ rfl (w.heap.size) rfl 30 (rd m) (0, 0) _ Hrp0.out Tryd.underlying30 rfl (rd_info m) ?_
    simp only [Act.put, List.setIfInBounds_toArray, List.set_cons_succ, List.set_cons_zero]
    go_big_quiet_step (exact c34.re)
    go_big_quiet_step (fail)
    refine wpQuiet_nil ?_
    rintro _ ⟨p, rfl⟩
    have hb := below_regrown w31 p.d p.os
    generalize grow (redrawn w31 p.d) p.os = w32 at *
    replace rp0 := keep hb rp0
    replace rp1 := keep hb rp1
    replace rg4 := keep hb rg4
    replace hw := Below.after hw hb
    clear hb
    clear Hrp0 Hrp1 Hrg4
    go_wp2
    go_wp2
    have Hrp0 := keepr rp0
    have Hrp1 := keepr rp1
    have Hrg4 := keepr rg4
    refine wp_region_quiet_below (by kernel_rfl) (by kernel_rfl) ?_
    refine wpQuiet_load_row rfl 30 _ rfl (g4) rfl 30 (rd q0) (0, 0) _ Hrg4.out Tryd.underlying30 rfl (rd_info q0) ?_
    simp only [Act.put, List.setIfInBounds_toArray, List.set_cons_succ, List.set_cons_zero]
    go_big_quiet_step (exact c33.re)
    refine wpQuiet_load_row rfl 30 _ rfl (w.heap.size) rfl 30 (rd m) (0, 0) _ Hrp0.out Tryd.underlying30 rfl (rd_info m) ?_
    simp only [Act.put, List.setIfInBounds_toArray, List.set_cons_succ, List.set_cons_zero]
    go_big_quiet_step (exact c34.re)
    go_big_quiet_step (fail)
    refine wpQuiet_nil ?_
    rintro _ ⟨p, rfl⟩
    have hb := below_regrown w32 p.d p.os
    generalize grow (redrawn w32 p.d) p.os = w35 at *
    replace rp0 := keep hb rp0
    replace rp1 := keep hb rp1
    replace rg4 := keep hb rg4
    replace hw := Below.after hw hb
    clear hb
    clear Hrp0 Hrp1 Hrg4
    go_wp2_with (first | (refine wpList_load_want rfl 30 _ rfl (w.heap.size) rfl 30 (rd m) (0, 0) _ rp0 Tryd.underlying30 rfl (rd_info m) ?_) | (refine wpList_load_want rfl 30 _ rfl (w.heap.size + 1) rfl 30 #[.int .u64 0, .int .u64 0, .int .u64 0, .int .u64 0, .int .u64 0, .int .u64 0, .int .u64 0, .int .u64 0, .int .u64 0, .int .u64 0, .int .u64 0, .int .u64 0, .int .u64 0, .int .u64 0, .int .u64 0, .int .u64 0] (0, 0) _ rp1 Tryd.underlying30 rfl (rd_info 0) ?_) | (refine wpList_load_want rfl 30 _ rfl (g4) rfl 30 (rd q0) (0, 0) _ rg4 Tryd.underlying30 rfl (rd_info q0) ?_) | fail)
    refine (c36.at _).mono ?_
    rintro e w37 ⟨rfl, hb⟩
    replace rp0 := keep hb rp0
    replace rp1 := keep hb rp1
    replace rg4 := keep hb rg4
    replace hw := Below.after hw hb
    clear hb
    go_wp2_with (first | (refine wpList_load_want rfl 30 _ rfl (w.heap.size) rfl 30 (rd m) (0, 0) _ rp0 Tryd.underlying30 rfl (rd_info m) ?_) | (refine wpList_load_want rfl 30 _ rfl (w.heap.size + 1) rfl 30 #[.int .u64 0, .int .u64 0, .int .u64 0, .int .u64 0, .int .u64 0, .int .u64 0, .int .u64 0, .int .u64 0, .int .u64 0, .int .u64 0, .int .u64 0, .int .u64 0, .int .u64 0, .int .u64 0, .int .u64 0, .int .u64 0] (0, 0) _ rp1 Tryd.underlying30 rfl (rd_info 0) ?_) | (refine wpList_load_want rfl 30 _ rfl (g4) rfl 30 (rd q0) (0, 0) _ rg4 Tryd.underlying30 rfl (rd_info q0) ?_) | (refine wpList_store_row rfl 30 _ _ rfl (w.heap.size + 1) (rd q0) rfl rfl 30 _ rp1 (rd_info q0) rfl (rd_one q0) ?_) | fail)
    exact bodyPost_ret (v := .tuple #[.agg (rd q0), .bool true]) (results_row_slot Tryd.results33 _ _ (w.heap.size + 1) _ (rd q0) _ _ (.bool true) rfl (setRow_heap _ _ _ _ _ _ rp1) rfl Tryd.underlying30 rfl (rd_info q0)) rfl ⟨rfl, below_setRow hw (by omega) _⟩

end Go.Proofs.YtnohfbpmckhbbaaDoor

