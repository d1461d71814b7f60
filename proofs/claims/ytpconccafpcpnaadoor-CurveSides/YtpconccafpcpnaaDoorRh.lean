import Derived.Test.YtpconccafpcpnaaDoorProg
import Derived.WalkKit
import Derived.WalkSpells
import Derived.WalkLawsBesides
import Derived.Lib.QuietBelow
import Derived.BigQuiet
import Derived.Test.YtpconccafpcpnaaDoorKa
import Derived.Test.YtpconccafpcpnaaDoorRg
import Derived.Test.YtpconccafpcpnaaDoorRc
namespace Go.Proofs.YtpconccafpcpnaaDoor
set_option maxRecDepth 100000
open Go.RowKit Go.Sort
attribute [local go_sem] setCell_drewN alloc_drewN


set_option maxHeartbeats 4000000 in
theorem refAdd_any (x0 x1 x2 x3 x4 x5 x6 x7 x8 x9 x10 x11 x12 x13 x14 x15 y0 y1 y2 y3 y4 y5 y6 y7 y8 y9 y10 y11 y12 y13 y14 y15 : Int) (l0 : 0 ≤ x0) (u0 : x0 < 65536) (l1 : 0 ≤ x1) (u1 : x1 < 65536) (l2 : 0 ≤ x2) (u2 : x2 < 65536) (l3 : 0 ≤ x3) (u3 : x3 < 65536) (l4 : 0 ≤ x4) (u4 : x4 < 65536) (l5 : 0 ≤ x5) (u5 : x5 < 65536) (l6 : 0 ≤ x6) (u6 : x6 < 65536) (l7 : 0 ≤ x7) (u7 : x7 < 65536) (l8 : 0 ≤ x8) (u8 : x8 < 65536) (l9 : 0 ≤ x9) (u9 : x9 < 65536) (l10 : 0 ≤ x10) (u10 : x10 < 65536) (l11 : 0 ≤ x11) (u11 : x11 < 65536) (l12 : 0 ≤ x12) (u12 : x12 < 65536) (l13 : 0 ≤ x13) (u13 : x13 < 65536) (l14 : 0 ≤ x14) (u14 : x14 < 65536) (l15 : 0 ≤ x15) (u15 : x15 < 65536) (ly0 : 0 ≤ y0) (uy0 : y0 < 65536) (ly1 : 0 ≤ y1) (uy1 : y1 < 65536) (ly2 : 0 ≤ y2) (uy2 : y2 < 65536) (ly3 : 0 ≤ y3) (uy3 : y3 < 65536) (ly4 : 0 ≤ y4) (uy4 : y4 < 65536) (ly5 : 0 ≤ y5) (uy5 : y5 < 65536) (ly6 : 0 ≤ y6) (uy6 : y6 < 65536) (ly7 : 0 ≤ y7) (uy7 : y7 < 65536) (ly8 : 0 ≤ y8) (uy8 : y8 < 65536) (ly9 : 0 ≤ y9) (uy9 : y9 < 65536) (ly10 : 0 ≤ y10) (uy10 : y10 < 65536) (ly11 : 0 ≤ y11) (uy11 : y11 < 65536) (ly12 : 0 ≤ y12) (uy12 : y12 < 65536) (ly13 : 0 ≤ y13) (uy13 : y13 < 65536) (ly14 : 0 ≤ y14) (uy14 : y14 < 65536) (ly15 : 0 ≤ y15) (uy15 : y15 < 65536) (w : World) :
    Calls Tryd.prog 41 #[.agg #[.int .u64 x0, .int .u64 x1, .int .u64 x2, .int .u64 x3, .int .u64 x4, .int .u64 x5, .int .u64 x6, .int .u64 x7, .int .u64 x8, .int .u64 x9, .int .u64 x10, .int .u64 x11, .int .u64 x12, .int .u64 x13, .int .u64 x14, .int .u64 x15], .agg #[.int .u64 y0, .int .u64 y1, .int .u64 y2, .int .u64 y3, .int .u64 y4, .int .u64 y5, .int .u64 y6, .int .u64 y7, .int .u64 y8, .int .u64 y9, .int .u64 y10, .int .u64 y11, .int .u64 y12, .int .u64 y13, .int .u64 y14, .int .u64 y15]] w fun e w' => e = .returned (.agg #[.int .u64 (dg ((v16 x0 x1 x2 x3 x4 x5 x6 x7 x8 x9 x10 x11 x12 x13 x14 x15 + v16 y0 y1 y2 y3 y4 y5 y6 y7 y8 y9 y10 y11 y12 y13 y14 y15) % prm) 0), .int .u64 (dg ((v16 x0 x1 x2 x3 x4 x5 x6 x7 x8 x9 x10 x11 x12 x13 x14 x15 + v16 y0 y1 y2 y3 y4 y5 y6 y7 y8 y9 y10 y11 y12 y13 y14 y15) % prm) 1), .int .u64 (dg ((v16 x0 x1 x2 x3 x4 x5 x6 x7 x8 x9 x10 x11 x12 x13 x14 x15 + v16 y0 y1 y2 y3 y4 y5 y6 y7 y8 y9 y10 y11 y12 y13 y14 y15) % prm) 2), .int .u64 (dg ((v16 x0 x1 x2 x3 x4 x5 x6 x7 x8 x9 x10 x11 x12 x13 x14 x15 + v16 y0 y1 y2 y3 y4 y5 y6 y7 y8 y9 y10 y11 y12 y13 y14 y15) % prm) 3), .int .u64 (dg ((v16 x0 x1 x2 x3 x4 x5 x6 x7 x8 x9 x10 x11 x12 x13 x14 x15 + v16 y0 y1 y2 y3 y4 y5 y6 y7 y8 y9 y10 y11 y12 y13 y14 y15) % prm) 4), .int .u64 (dg ((v16 x0 x1 x2 x3 x4 x5 x6 x7 x8 x9 x10 x11 x12 x13 x14 x15 + v16 y0 y1 y2 y3 y4 y5 y6 y7 y8 y9 y10 y11 y12 y13 y14 y15) % prm) 5), .int .u64 (dg ((v16 x0 x1 x2 x3 x4 x5 x6 x7 x8 x9 x10 x11 x12 x13 x14 x15 + v16 y0 y1 y2 y3 y4 y5 y6 y7 y8 y9 y10 y11 y12 y13 y14 y15) % prm) 6), .int .u64 (dg ((v16 x0 x1 x2 x3 x4 x5 x6 x7 x8 x9 x10 x11 x12 x13 x14 x15 + v16 y0 y1 y2 y3 y4 y5 y6 y7 y8 y9 y10 y11 y12 y13 y14 y15) % prm) 7), .int .u64 (dg ((v16 x0 x1 x2 x3 x4 x5 x6 x7 x8 x9 x10 x11 x12 x13 x14 x15 + v16 y0 y1 y2 y3 y4 y5 y6 y7 y8 y9 y10 y11 y12 y13 y14 y15) % prm) 8), .int .u64 (dg ((v16 x0 x1 x2 x3 x4 x5 x6 x7 x8 x9 x10 x11 x12 x13 x14 x15 + v16 y0 y1 y2 y3 y4 y5 y6 y7 y8 y9 y10 y11 y12 y13 y14 y15) % prm) 9), .int .u64 (dg ((v16 x0 x1 x2 x3 x4 x5 x6 x7 x8 x9 x10 x11 x12 x13 x14 x15 + v16 y0 y1 y2 y3 y4 y5 y6 y7 y8 y9 y10 y11 y12 y13 y14 y15) % prm) 10), .int .u64 (dg ((v16 x0 x1 x2 x3 x4 x5 x6 x7 x8 x9 x10 x11 x12 x13 x14 x15 + v16 y0 y1 y2 y3 y4 y5 y6 y7 y8 y9 y10 y11 y12 y13 y14 y15) % prm) 11), .int .u64 (dg ((v16 x0 x1 x2 x3 x4 x5 x6 x7 x8 x9 x10 x11 x12 x13 x14 x15 + v16 y0 y1 y2 y3 y4 y5 y6 y7 y8 y9 y10 y11 y12 y13 y14 y15) % prm) 12), .int .u64 (dg ((v16 x0 x1 x2 x3 x4 x5 x6 x7 x8 x9 x10 x11 x12 x13 x14 x15 + v16 y0 y1 y2 y3 y4 y5 y6 y7 y8 y9 y10 y11 y12 y13 y14 y15) % prm) 13), .int .u64 (dg ((v16 x0 x1 x2 x3 x4 x5 x6 x7 x8 x9 x10 x11 x12 x13 x14 x15 + v16 y0 y1 y2 y3 y4 y5 y6 y7 y8 y9 y10 y11 y12 y13 y14 y15) % prm) 14), .int .u64 (dg ((v16 x0 x1 x2 x3 x4 x5 x6 x7 x8 x9 x10 x11 x12 x13 x14 x15 + v16 y0 y1 y2 y3 y4 y5 y6 y7 y8 y9 y10 y11 y12 y13 y14 y15) % prm) 15)]) ∧ Below w.heap.size w w' := by
  have c := fun W => settle_any (x0 + y0) (x1 + y1) (x2 + y2) (x3 + y3) (x4 + y4) (x5 + y5) (x6 + y6) (x7 + y7) (x8 + y8) (x9 + y9) (x10 + y10) (x11 + y11) (x12 + y12) (x13 + y13) (x14 + y14) (x15 + y15) (by omega) (by omega) (by omega) (by omega) (by omega) (by omega) (by omega) (by omega) (by omega) (by omega) (by omega) (by omega) (by omega) (by omega) (by omega) (by omega) (by omega) (by omega) (by omega) (by omega) (by omega) (by omega) (by omega) (by omega) (by omega) (by omega) (by omega) (by omega) (by omega) (by omega) (by omega) (by omega) W
  have ev : v16 (x0 + y0) (x1 + y1) (x2 + y2) (x3 + y3) (x4 + y4) (x5 + y5) (x6 + y6) (x7 + y7) (x8 + y8) (x9 + y9) (x10 + y10) (x11 + y11) (x12 + y12) (x13 + y13) (x14 + y14) (x15 + y15) = v16 x0 x1 x2 x3 x4 x5 x6 x7 x8 x9 x10 x11 x12 x13 x14 x15 + v16 y0 y1 y2 y3 y4 y5 y6 y7 y8 y9 y10 y11 y12 y13 y14 y15 := by simp only [v16, valL]; omega
  rw [ev] at c
  have C := hide c
  clear c ev
  generalize (v16 x0 x1 x2 x3 x4 x5 x6 x7 x8 x9 x10 x11 x12 x13 x14 x15 + v16 y0 y1 y2 y3 y4 y5 y6 y7 y8 y9 y10 y11 y12 y13 y14 y15) % prm = q at *
  go_enter Tryd.func41, Tryd.ntmps41
  go_wp2
  refine wp_loop_rounds 17 ?_
  rw [rounds_succ]
  go_wp2
  refine wp_region_tail (C := fun w' => ∃ n, w' = World.drewN _ n) 11 _ rfl rfl rfl (by kernel_rfl) (by kernel_rfl) (by kernel_rfl) (by kernel_rfl) ⟨1, rfl⟩ ?_
  dsimp only [List.set, idle]
  repeat (go_big_quiet_step (fail))
  first | refine wpQuiet_nil ?_ | refine wpQuiet_idle rfl rfl rfl ?_
  rintro _ ⟨n0, rfl⟩
  go_wp2
  rw [rounds_succ]
  go_wp2
  refine wp_region_tail (C := fun w' => ∃ n, w' = World.drewN _ n) 11 _ rfl rfl rfl (by kernel_rfl) (by kernel_rfl) (by kernel_rfl) (by kernel_rfl) ⟨1, rfl⟩ ?_
  dsimp only [List.set, idle]
  repeat (go_big_quiet_step (fail))
  first | refine wpQuiet_nil ?_ | refine wpQuiet_idle rfl rfl rfl ?_
  rintro _ ⟨n1, rfl⟩
  go_wp2
  rw [rounds_succ]
  go_wp2
  refine wp_region_tail (C := fun w' => ∃ n, w' = World.drewN _ n) 11 _ rfl rfl rfl (by kernel_rfl) (by kernel_rfl) (by kernel_rfl) (by kernel_rfl) ⟨1, rfl⟩ ?_
  dsimp only [List.set, idle]
  repeat (go_big_quiet_step (fail))
  first | refine wpQuiet_nil ?_ | refine wpQuiet_idle rfl rfl rfl ?_
  rintro _ ⟨n2, rfl⟩
  go_wp2
  rw [rounds_succ]
  go_wp2
  refine wp_region_tail (C := fun w' => ∃ n, w' = World.drewN _ n) 11 _ rfl rfl rfl (by kernel_rfl) (by kernel_rfl) (by kernel_rfl) (by kernel_rfl) ⟨1, rfl⟩ ?_
  dsimp only [List.set, idle]
  repeat (go_big_quiet_step (fail))
  first | refine wpQuiet_nil ?_ | refine wpQuiet_idle rfl rfl rfl ?_
  rintro _ ⟨n3, rfl⟩
  go_wp2
  rw [rounds_succ]
  go_wp2
  refine wp_region_tail (C := fun w' => ∃ n, w' = World.drewN _ n) 11 _ rfl rfl rfl (by kernel_rfl) (by kernel_rfl) (by kernel_rfl) (by kernel_rfl) ⟨1, rfl⟩ ?_
  dsimp only [List.set, idle]
  repeat (go_big_quiet_step (fail))
  first | refine wpQuiet_nil ?_ | refine wpQuiet_idle rfl rfl rfl ?_
  rintro _ ⟨n4, rfl⟩
  go_wp2
  rw [rounds_succ]
  go_wp2
  refine wp_region_tail (C := fun w' => ∃ n, w' = World.drewN _ n) 11 _ rfl rfl rfl (by kernel_rfl) (by kernel_rfl) (by kernel_rfl) (by kernel_rfl) ⟨1, rfl⟩ ?_
  dsimp only [List.set, idle]
  repeat (go_big_quiet_step (fail))
  first | refine wpQuiet_nil ?_ | refine wpQuiet_idle rfl rfl rfl ?_
  rintro _ ⟨n5, rfl⟩
  go_wp2
  rw [rounds_succ]
  go_wp2
  refine wp_region_tail (C := fun w' => ∃ n, w' = World.drewN _ n) 11 _ rfl rfl rfl (by kernel_rfl) (by kernel_rfl) (by kernel_rfl) (by kernel_rfl) ⟨1, rfl⟩ ?_
  dsimp only [List.set, idle]
  repeat (go_big_quiet_step (fail))
  first | refine wpQuiet_nil ?_ | refine wpQuiet_idle rfl rfl rfl ?_
  rintro _ ⟨n6, rfl⟩
  go_wp2
  rw [rounds_succ]
  go_wp2
  refine wp_region_tail (C := fun w' => ∃ n, w' = World.drewN _ n) 11 _ rfl rfl rfl (by kernel_rfl) (by kernel_rfl) (by kernel_rfl) (by kernel_rfl) ⟨1, rfl⟩ ?_
  dsimp only [List.set, idle]
  repeat (go_big_quiet_step (fail))
  first | refine wpQuiet_nil ?_ | refine wpQuiet_idle rfl rfl rfl ?_
  rintro _ ⟨n7, rfl⟩
  go_wp2
  rw [rounds_succ]
  go_wp2
  refine wp_region_tail (C := fun w' => ∃ n, w' = World.drewN _ n) 11 _ rfl rfl rfl (by kernel_rfl) (by kernel_rfl) (by kernel_rfl) (by kernel_rfl) ⟨1, rfl⟩ ?_
  dsimp only [List.set, idle]
  repeat (go_big_quiet_step (fail))
  first | refine wpQuiet_nil ?_ | refine wpQuiet_idle rfl rfl rfl ?_
  rintro _ ⟨n8, rfl⟩
  go_wp2
  rw [rounds_succ]
  go_wp2
  refine wp_region_tail (C := fun w' => ∃ n, w' = World.drewN _ n) 11 _ rfl rfl rfl (by kernel_rfl) (by kernel_rfl) (by kernel_rfl) (by kernel_rfl) ⟨1, rfl⟩ ?_
  dsimp only [List.set, idle]
  repeat (go_big_quiet_step (fail))
  first | refine wpQuiet_nil ?_ | refine wpQuiet_idle rfl rfl rfl ?_
  rintro _ ⟨n9, rfl⟩
  go_wp2
  rw [rounds_succ]
  go_wp2
  refine wp_region_tail (C := fun w' => ∃ n, w' = World.drewN _ n) 11 _ rfl rfl rfl (by kernel_rfl) (by kernel_rfl) (by kernel_rfl) (by kernel_rfl) ⟨1, rfl⟩ ?_
  dsimp only [List.set, idle]
  repeat (go_big_quiet_step (fail))
  first | refine wpQuiet_nil ?_ | refine wpQuiet_idle rfl rfl rfl ?_
  rintro _ ⟨n10, rfl⟩
  go_wp2
  rw [rounds_succ]
  go_wp2
  refine wp_region_tail (C := fun w' => ∃ n, w' = World.drewN _ n) 11 _ rfl rfl rfl (by kernel_rfl) (by kernel_rfl) (by kernel_rfl) (by kernel_rfl) ⟨1, rfl⟩ ?_
  dsimp only [List.set, idle]
  repeat (go_big_quiet_step (fail))
  first | refine wpQuiet_nil ?_ | refine wpQuiet_idle rfl rfl rfl ?_
  rintro _ ⟨n11, rfl⟩
  go_wp2
  rw [rounds_succ]
  go_wp2
  refine wp_region_tail (C := fun w' => ∃ n, w' = World.drewN _ n) 11 _ rfl rfl rfl (by kernel_rfl) (by kernel_rfl) (by kernel_rfl) (by kernel_rfl) ⟨1, rfl⟩ ?_
  dsimp only [List.set, idle]
  repeat (go_big_quiet_step (fail))
  first | refine wpQuiet_nil ?_ | refine wpQuiet_idle rfl rfl rfl ?_
  rintro _ ⟨n12, rfl⟩
  go_wp2
  rw [rounds_succ]
  go_wp2
  refine wp_region_tail (C := fun w' => ∃ n, w' = World.drewN _ n) 11 _ rfl rfl rfl (by kernel_rfl) (by kernel_rfl) (by kernel_rfl) (by kernel_rfl) ⟨1, rfl⟩ ?_
  dsimp only [List.set, idle]
  repeat (go_big_quiet_step (fail))
  first | refine wpQuiet_nil ?_ | refine wpQuiet_idle rfl rfl rfl ?_
  rintro _ ⟨n13, rfl⟩
  go_wp2
  rw [rounds_succ]
  go_wp2
  refine wp_region_tail (C := fun w' => ∃ n, w' = World.drewN _ n) 11 _ rfl rfl rfl (by kernel_rfl) (by kernel_rfl) (by kernel_rfl) (by kernel_rfl) ⟨1, rfl⟩ ?_
  dsimp only [List.set, idle]
  repeat (go_big_quiet_step (fail))
  first | refine wpQuiet_nil ?_ | refine wpQuiet_idle rfl rfl rfl ?_
  rintro _ ⟨n14, rfl⟩
  go_wp2
  rw [rounds_succ]
  go_wp2
  refine wp_region_tail (C := fun w' => ∃ n, w' = World.drewN _ n) 11 _ rfl rfl rfl (by kernel_rfl) (by kernel_rfl) (by kernel_rfl) (by kernel_rfl) ⟨1, rfl⟩ ?_
  dsimp only [List.set, idle]
  repeat (go_big_quiet_step (fail))
  first | refine wpQuiet_nil ?_ | refine wpQuiet_idle rfl rfl rfl ?_
  rintro _ ⟨n15, rfl⟩
  go_wp2
  rw [rounds_succ]
  go_wp2_with (first | (refine wpList_load_row rfl 28 _ rfl (w.heap.size + 1 + 1 + 1) rfl 28 #[.int .u64 (x0 + y0), .int .u64 (x1 + y1), .int .u64 (x2 + y2), .int .u64 (x3 + y3), .int .u64 (x4 + y4), .int .u64 (x5 + y5), .int .u64 (x6 + y6), .int .u64 (x7 + y7), .int .u64 (x8 + y8), .int .u64 (x9 + y9), .int .u64 (x10 + y10), .int .u64 (x11 + y11), .int .u64 (x12 + y12), .int .u64 (x13 + y13), .int .u64 (x14 + y14), .int .u64 (x15 + y15)] (0, 0) _ (by rw [World.heap_drewN, hp4_3]) Tryd.underlying28 rfl (by kernel_rfl) ?_) | fail)
  refine (C.out _).mono ?_
  rintro e w1 ⟨rfl, hb⟩
  have rZ : w1.heap[w.heap.size + 1 + 1]? = some (.cells #[.int .u64 0, .int .u64 0, .int .u64 0, .int .u64 0, .int .u64 0, .int .u64 0, .int .u64 0, .int .u64 0, .int .u64 0, .int .u64 0, .int .u64 0, .int .u64 0, .int .u64 0, .int .u64 0, .int .u64 0, .int .u64 0] 30 (0, 0)) := (hb.block _ (by simp)).trans (by rw [World.heap_drewN, hp4_2])
  have hbw : Below w.heap.size w w1 := (below_drN (((((Below.refl _ _).alloc (Nat.le_refl _) _).alloc (by simp) _).alloc (by simp; omega) _).alloc (by simp; omega) _) _).trans (hb.mono (by simp; omega))
  clear hb
  go_wp2_with (first | (refine wpList_store_row rfl 30 _ _ rfl (w.heap.size + 1 + 1) (rd q) rfl rfl 30 _ rZ (rd_info q) rfl (rd_one q) ?_) | fail)
  exact bodyPost_ret (v := .agg (rd q)) (results_cell_row Tryd.results41 _ _ (w.heap.size + 1 + 1) _ (rd q) _ _ rfl (setRow_heap _ _ _ _ _ _ rZ) Tryd.underlying30 rfl (rd_info q)) rfl ⟨rfl, below_setRow hbw (by omega) _⟩
theorem v16_dg (m : Int) (h : inP m) : v16 (dg m 0) (dg m 1) (dg m 2) (dg m 3) (dg m 4) (dg m 5) (dg m 6) (dg m 7) (dg m 8) (dg m 9) (dg m 10) (dg m 11) (dg m 12) (dg m 13) (dg m 14) (dg m 15) = m := by
  obtain ⟨h0, h1⟩ := h
  rw [← sumN_v16]
  exact sumN_dg m h0 (by unfold prm at h1; omega)
theorem r_add {m q : Int} (h : inP m) (g : inP q) : Gives 41 #[.agg (rd m), .agg (rd q)] (.agg (rd ((m + q) % prm))) := fun W => by
  have c := refAdd_any (dg m 0) (dg m 1) (dg m 2) (dg m 3) (dg m 4) (dg m 5) (dg m 6) (dg m 7) (dg m 8) (dg m 9) (dg m 10) (dg m 11) (dg m 12) (dg m 13) (dg m 14) (dg m 15) (dg q 0) (dg q 1) (dg q 2) (dg q 3) (dg q 4) (dg q 5) (dg q 6) (dg q 7) (dg q 8) (dg q 9) (dg q 10) (dg q 11) (dg q 12) (dg q 13) (dg q 14) (dg q 15) (dg_bd m 0).1 (dg_bd m 0).2 (dg_bd m 1).1 (dg_bd m 1).2 (dg_bd m 2).1 (dg_bd m 2).2 (dg_bd m 3).1 (dg_bd m 3).2 (dg_bd m 4).1 (dg_bd m 4).2 (dg_bd m 5).1 (dg_bd m 5).2 (dg_bd m 6).1 (dg_bd m 6).2 (dg_bd m 7).1 (dg_bd m 7).2 (dg_bd m 8).1 (dg_bd m 8).2 (dg_bd m 9).1 (dg_bd m 9).2 (dg_bd m 10).1 (dg_bd m 10).2 (dg_bd m 11).1 (dg_bd m 11).2 (dg_bd m 12).1 (dg_bd m 12).2 (dg_bd m 13).1 (dg_bd m 13).2 (dg_bd m 14).1 (dg_bd m 14).2 (dg_bd m 15).1 (dg_bd m 15).2 (dg_bd q 0).1 (dg_bd q 0).2 (dg_bd q 1).1 (dg_bd q 1).2 (dg_bd q 2).1 (dg_bd q 2).2 (dg_bd q 3).1 (dg_bd q 3).2 (dg_bd q 4).1 (dg_bd q 4).2 (dg_bd q 5).1 (dg_bd q 5).2 (dg_bd q 6).1 (dg_bd q 6).2 (dg_bd q 7).1 (dg_bd q 7).2 (dg_bd q 8).1 (dg_bd q 8).2 (dg_bd q 9).1 (dg_bd q 9).2 (dg_bd q 10).1 (dg_bd q 10).2 (dg_bd q 11).1 (dg_bd q 11).2 (dg_bd q 12).1 (dg_bd q 12).2 (dg_bd q 13).1 (dg_bd q 13).2 (dg_bd q 14).1 (dg_bd q 14).2 (dg_bd q 15).1 (dg_bd q 15).2 W
  rw [v16_dg m h, v16_dg q g] at c
  exact c

end Go.Proofs.YtpconccafpcpnaaDoor

