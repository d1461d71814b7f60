import Derived.Test.YtgfhoabgbgddbaaDoorProg
import Derived.WalkKit
import Derived.WalkSpells
import Derived.WalkLawsBesides
import Derived.Lib.QuietBelow
import Derived.BigQuiet
import Derived.Test.YtgfhoabgbgddbaaDoorKa
import Derived.Test.YtgfhoabgbgddbaaDoorMa
import Derived.Test.YtgfhoabgbgddbaaDoorFb
namespace Go.Proofs.YtgfhoabgbgddbaaDoor
set_option maxRecDepth 100000
open Go.RowKit Go.Sort
attribute [local go_sem] setCell_drewN alloc_drewN


set_option maxHeartbeats 4000000 in
theorem bytes_any (a0 a1 a2 a3 a4 : Int) (lo0 : 0 ≤ a0) (hi0 : a0 < 4503599627370496) (lo1 : 0 ≤ a1) (hi1 : a1 < 4503599627370496) (lo2 : 0 ≤ a2) (hi2 : a2 < 4503599627370496) (lo3 : 0 ≤ a3) (hi3 : a3 < 4503599627370496) (lo4 : 0 ≤ a4) (hi4 : a4 < 4503599627370496) (w : World) :
    Calls Tryd.prog 55 #[.agg #[.int .u64 a0, .int .u64 a1, .int .u64 a2, .int .u64 a3, .int .u64 a4]] w fun r w' => r = .returned (.agg #[.int .u8 (byt (v5 a0 a1 a2 a3 a4 % prm) 0), .int .u8 (byt (v5 a0 a1 a2 a3 a4 % prm) 1), .int .u8 (byt (v5 a0 a1 a2 a3 a4 % prm) 2), .int .u8 (byt (v5 a0 a1 a2 a3 a4 % prm) 3), .int .u8 (byt (v5 a0 a1 a2 a3 a4 % prm) 4), .int .u8 (byt (v5 a0 a1 a2 a3 a4 % prm) 5), .int .u8 (byt (v5 a0 a1 a2 a3 a4 % prm) 6), .int .u8 (byt (v5 a0 a1 a2 a3 a4 % prm) 7), .int .u8 (byt (v5 a0 a1 a2 a3 a4 % prm) 8), .int .u8 (byt (v5 a0 a1 a2 a3 a4 % prm) 9), .int .u8 (byt (v5 a0 a1 a2 a3 a4 % prm) 10), .int .u8 (byt (v5 a0 a1 a2 a3 a4 % prm) 11), .int .u8 (byt (v5 a0 a1 a2 a3 a4 % prm) 12), .int .u8 (byt (v5 a0 a1 a2 a3 a4 % prm) 13), .int .u8 (byt (v5 a0 a1 a2 a3 a4 % prm) 14), .int .u8 (byt (v5 a0 a1 a2 a3 a4 % prm) 15), .int .u8 (byt (v5 a0 a1 a2 a3 a4 % prm) 16), .int .u8 (byt (v5 a0 a1 a2 a3 a4 % prm) 17), .int .u8 (byt (v5 a0 a1 a2 a3 a4 % prm) 18), .int .u8 (byt (v5 a0 a1 a2 a3 a4 % prm) 19), .int .u8 (byt (v5 a0 a1 a2 a3 a4 % prm) 20), .int .u8 (byt (v5 a0 a1 a2 a3 a4 % prm) 21), .int .u8 (byt (v5 a0 a1 a2 a3 a4 % prm) 22), .int .u8 (byt (v5 a0 a1 a2 a3 a4 % prm) 23), .int .u8 (byt (v5 a0 a1 a2 a3 a4 % prm) 24), .int .u8 (byt (v5 a0 a1 a2 a3 a4 % prm) 25), .int .u8 (byt (v5 a0 a1 a2 a3 a4 % prm) 26), .int .u8 (byt (v5 a0 a1 a2 a3 a4 % prm) 27), .int .u8 (byt (v5 a0 a1 a2 a3 a4 % prm) 28), .int .u8 (byt (v5 a0 a1 a2 a3 a4 % prm) 29), .int .u8 (byt (v5 a0 a1 a2 a3 a4 % prm) 30), .int .u8 (byt (v5 a0 a1 a2 a3 a4 % prm) 31)]) ∧ Below w.heap.size w w' := by
  have hV0 : Hid (0 ≤ v5 a0 a1 a2 a3 a4 % prm ∧ v5 a0 a1 a2 a3 a4 % prm < 57896044618658097711785492504343953926634992332820282019728792003956564819968) := by unfold Hid prm; omega
  have hL := fun W => least_any a0 a1 a2 a3 a4 lo0 hi0 lo1 hi1 lo2 hi2 lo3 hi3 lo4 hi4 W
  generalize v5 a0 a1 a2 a3 a4 % prm = V at *
  have HL := hide hL; clear hL lo0 hi0 lo1 hi1 lo2 hi2 lo3 hi3 lo4 hi4
  go_enter Tryd.func55, Tryd.ntmps55
  go_wp2_with (first | (refine wpList_load_row rfl 27 _ rfl w.heap.size rfl 27 #[.int .u64 a0, .int .u64 a1, .int .u64 a2, .int .u64 a3, .int .u64 a4] (0, 0) _ (hp2_0 w _ _) Tryd.underlying27 rfl (by kernel_rfl) ?_) | fail)
  refine (HL.out _).mono ?_
  rintro r w1 ⟨rfl, hb⟩
  have hs1 := hb.size
  simp only [World.size_alloc] at hs1
  have rZ1 : w1.heap[w.heap.size + 1]? = some (.cells #[.int .u8 0, .int .u8 0, .int .u8 0, .int .u8 0, .int .u8 0, .int .u8 0, .int .u8 0, .int .u8 0, .int .u8 0, .int .u8 0, .int .u8 0, .int .u8 0, .int .u8 0, .int .u8 0, .int .u8 0, .int .u8 0, .int .u8 0, .int .u8 0, .int .u8 0, .int .u8 0, .int .u8 0, .int .u8 0, .int .u8 0, .int .u8 0, .int .u8 0, .int .u8 0, .int .u8 0, .int .u8 0, .int .u8 0, .int .u8 0, .int .u8 0, .int .u8 0] 23 (0, 0)) := (hb.block _ (by simp)).trans (hp2_1 w _ _)
  have hbw1 : Below w.heap.size w w1 := (((Below.refl _ _).alloc (Nat.le_refl _) _).alloc (by simp) _).trans (hb.mono (by simp; omega))
  clear hb HL
  obtain ⟨l0, u0⟩ := lb_bd V 0; obtain ⟨l1, u1⟩ := lb_bd V 1; obtain ⟨l2, u2⟩ := lb_bd V 2; obtain ⟨l3, u3⟩ := lb_bd V 3; obtain ⟨l4, u4⟩ := lb_bd V 4
  have hV := v5_lb V hV0.out.1 hV0.out.2
  have HV := hide hV; clear hV
  generalize lb V 0 = m0 at *; generalize lb V 1 = m1 at *; generalize lb V 2 = m2 at *; generalize lb V 3 = m3 at *; generalize lb V 4 = m4 at *
  go_wp2_with (first | (refine wpList_store_row rfl 25 _ _ rfl w1.heap.size #[.int .u64 m0, .int .u64 m1, .int .u64 m2, .int .u64 m3, .int .u64 m4] rfl rfl 25 _ (hp1_0 w1 _) (by kernel_rfl) rfl (by kernel_rfl) ?_; rw [setRow_alloc_new _ _ _ _ _ _ rfl]) | go_in)

  obtain ⟨N0, hN, HN0, lN0, uN0⟩ : ∃ N : Int, bits .or .u64 m0 (IntKind.u64.wrap (m1 * 2251799813685248)) = N ∧ Hid (N = m0 + m1 * 2251799813685248 % 18446744073709551616) ∧ 0 ≤ N ∧ N < 18446744073709551616 :=
    ⟨_, rfl, by unfold Hid; rw [IntKind.wrap_u64]; exact or_sum 51 m0 _ (by omega) (by omega) (by omega) (by omega) (by omega) (by omega), by rw [IntKind.wrap_u64]; rw [or_sum 51 m0 _ (by omega) (by omega) (by omega) (by omega) (by omega) (by omega)]; omega, by rw [IntKind.wrap_u64]; rw [or_sum 51 m0 _ (by omega) (by omega) (by omega) (by omega) (by omega) (by omega)]; omega⟩
  rw [hN]; clear hN
  refine wp_loop_rounds 9 ?_
  rw [rounds_succ]
  go_wp2
  refine wp_region_tail (C := fun w' => ∃ n, w' = World.drewN _ n) 11 _ rfl rfl rfl (by kernel_rfl) (by kernel_rfl) (by kernel_rfl) (by kernel_rfl) ⟨1, rfl⟩ ?_
  dsimp only [List.set, idle]
  repeat (go_big_quiet_step (fail))
  first | refine wpQuiet_nil ?_ | refine wpQuiet_idle rfl rfl rfl ?_
  rintro _ ⟨n00, rfl⟩
  go_wp2
  rw [rounds_succ]
  go_wp2
  refine wp_region_tail (C := fun w' => ∃ n, w' = World.drewN _ n) 11 _ rfl rfl rfl (by kernel_rfl) (by kernel_rfl) (by kernel_rfl) (by kernel_rfl) ⟨1, rfl⟩ ?_
  dsimp only [List.set, idle]
  repeat (go_big_quiet_step (fail))
  first | refine wpQuiet_nil ?_ | refine wpQuiet_idle rfl rfl rfl ?_
  rintro _ ⟨n01, rfl⟩
  go_wp2
  rw [rounds_succ]
  go_wp2
  refine wp_region_tail (C := fun w' => ∃ n, w' = World.drewN _ n) 11 _ rfl rfl rfl (by kernel_rfl) (by kernel_rfl) (by kernel_rfl) (by kernel_rfl) ⟨1, rfl⟩ ?_
  dsimp only [List.set, idle]
  repeat (go_big_quiet_step (fail))
  first | refine wpQuiet_nil ?_ | refine wpQuiet_idle rfl rfl rfl ?_
  rintro _ ⟨n02, rfl⟩
  go_wp2
  rw [rounds_succ]
  go_wp2
  refine wp_region_tail (C := fun w' => ∃ n, w' = World.drewN _ n) 11 _ rfl rfl rfl (by kernel_rfl) (by kernel_rfl) (by kernel_rfl) (by kernel_rfl) ⟨1, rfl⟩ ?_
  dsimp only [List.set, idle]
  repeat (go_big_quiet_step (fail))
  first | refine wpQuiet_nil ?_ | refine wpQuiet_idle rfl rfl rfl ?_
  rintro _ ⟨n03, rfl⟩
  go_wp2
  rw [rounds_succ]
  go_wp2
  refine wp_region_tail (C := fun w' => ∃ n, w' = World.drewN _ n) 11 _ rfl rfl rfl (by kernel_rfl) (by kernel_rfl) (by kernel_rfl) (by kernel_rfl) ⟨1, rfl⟩ ?_
  dsimp only [List.set, idle]
  repeat (go_big_quiet_step (fail))
  first | refine wpQuiet_nil ?_ | refine wpQuiet_idle rfl rfl rfl ?_
  rintro _ ⟨n04, rfl⟩
  go_wp2
  rw [rounds_succ]
  go_wp2
  refine wp_region_tail (C := fun w' => ∃ n, w' = World.drewN _ n) 11 _ rfl rfl rfl (by kernel_rfl) (by kernel_rfl) (by kernel_rfl) (by kernel_rfl) ⟨1, rfl⟩ ?_
  dsimp only [List.set, idle]
  repeat (go_big_quiet_step (fail))
  first | refine wpQuiet_nil ?_ | refine wpQuiet_idle rfl rfl rfl ?_
  rintro _ ⟨n05, rfl⟩
  go_wp2
  rw [rounds_succ]
  go_wp2
  refine wp_region_tail (C := fun w' => ∃ n, w' = World.drewN _ n) 11 _ rfl rfl rfl (by kernel_rfl) (by kernel_rfl) (by kernel_rfl) (by kernel_rfl) ⟨1, rfl⟩ ?_
  dsimp only [List.set, idle]
  repeat (go_big_quiet_step (fail))
  first | refine wpQuiet_nil ?_ | refine wpQuiet_idle rfl rfl rfl ?_
  rintro _ ⟨n06, rfl⟩
  go_wp2
  rw [rounds_succ]
  go_wp2
  refine wp_region_tail (C := fun w' => ∃ n, w' = World.drewN _ n) 11 _ rfl rfl rfl (by kernel_rfl) (by kernel_rfl) (by kernel_rfl) (by kernel_rfl) ⟨1, rfl⟩ ?_
  dsimp only [List.set, idle]
  repeat (go_big_quiet_step (fail))
  first | refine wpQuiet_nil ?_ | refine wpQuiet_idle rfl rfl rfl ?_
  rintro _ ⟨n07, rfl⟩
  go_wp2
  rw [rounds_succ]
  go_wp2
  go_end0
  go_wp2
  obtain ⟨N1, hN, HN1, lN1, uN1⟩ : ∃ N : Int, bits .or .u64 (m1 / 8192) (IntKind.u64.wrap (m2 * 274877906944)) = N ∧ Hid (N = m1 / 8192 + m2 * 274877906944 % 18446744073709551616) ∧ 0 ≤ N ∧ N < 18446744073709551616 :=
    ⟨_, rfl, by unfold Hid; rw [IntKind.wrap_u64]; exact or_sum 38 (m1 / 8192) _ (by omega) (by omega) (by omega) (by omega) (by omega) (by omega), by rw [IntKind.wrap_u64]; rw [or_sum 38 (m1 / 8192) _ (by omega) (by omega) (by omega) (by omega) (by omega) (by omega)]; omega, by rw [IntKind.wrap_u64]; rw [or_sum 38 (m1 / 8192) _ (by omega) (by omega) (by omega) (by omega) (by omega) (by omega)]; omega⟩
  rw [hN]; clear hN
  refine wp_loop_rounds 9 ?_
  rw [rounds_succ]
  go_wp2
  refine wp_region_tail (C := fun w' => ∃ n, w' = World.drewN _ n) 11 _ rfl rfl rfl (by kernel_rfl) (by kernel_rfl) (by kernel_rfl) (by kernel_rfl) ⟨1, rfl⟩ ?_
  dsimp only [List.set, idle]
  repeat (go_big_quiet_step (fail))
  first | refine wpQuiet_nil ?_ | refine wpQuiet_idle rfl rfl rfl ?_
  rintro _ ⟨n10, rfl⟩
  go_wp2
  rw [rounds_succ]
  go_wp2
  refine wp_region_tail (C := fun w' => ∃ n, w' = World.drewN _ n) 11 _ rfl rfl rfl (by kernel_rfl) (by kernel_rfl) (by kernel_rfl) (by kernel_rfl) ⟨1, rfl⟩ ?_
  dsimp only [List.set, idle]
  repeat (go_big_quiet_step (fail))
  first | refine wpQuiet_nil ?_ | refine wpQuiet_idle rfl rfl rfl ?_
  rintro _ ⟨n11, rfl⟩
  go_wp2
  rw [rounds_succ]
  go_wp2
  refine wp_region_tail (C := fun w' => ∃ n, w' = World.drewN _ n) 11 _ rfl rfl rfl (by kernel_rfl) (by kernel_rfl) (by kernel_rfl) (by kernel_rfl) ⟨1, rfl⟩ ?_
  dsimp only [List.set, idle]
  repeat (go_big_quiet_step (fail))
  first | refine wpQuiet_nil ?_ | refine wpQuiet_idle rfl rfl rfl ?_
  rintro _ ⟨n12, rfl⟩
  go_wp2
  rw [rounds_succ]
  go_wp2
  refine wp_region_tail (C := fun w' => ∃ n, w' = World.drewN _ n) 11 _ rfl rfl rfl (by kernel_rfl) (by kernel_rfl) (by kernel_rfl) (by kernel_rfl) ⟨1, rfl⟩ ?_
  dsimp only [List.set, idle]
  repeat (go_big_quiet_step (fail))
  first | refine wpQuiet_nil ?_ | refine wpQuiet_idle rfl rfl rfl ?_
  rintro _ ⟨n13, rfl⟩
  go_wp2
  rw [rounds_succ]
  go_wp2
  refine wp_region_tail (C := fun w' => ∃ n, w' = World.drewN _ n) 11 _ rfl rfl rfl (by kernel_rfl) (by kernel_rfl) (by kernel_rfl) (by kernel_rfl) ⟨1, rfl⟩ ?_
  dsimp only [List.set, idle]
  repeat (go_big_quiet_step (fail))
  first | refine wpQuiet_nil ?_ | refine wpQuiet_idle rfl rfl rfl ?_
  rintro _ ⟨n14, rfl⟩
  go_wp2
  rw [rounds_succ]
  go_wp2
  refine wp_region_tail (C := fun w' => ∃ n, w' = World.drewN _ n) 11 _ rfl rfl rfl (by kernel_rfl) (by kernel_rfl) (by kernel_rfl) (by kernel_rfl) ⟨1, rfl⟩ ?_
  dsimp only [List.set, idle]
  repeat (go_big_quiet_step (fail))
  first | refine wpQuiet_nil ?_ | refine wpQuiet_idle rfl rfl rfl ?_
  rintro _ ⟨n15, rfl⟩
  go_wp2
  rw [rounds_succ]
  go_wp2
  refine wp_region_tail (C := fun w' => ∃ n, w' = World.drewN _ n) 11 _ rfl rfl rfl (by kernel_rfl) (by kernel_rfl) (by kernel_rfl) (by kernel_rfl) ⟨1, rfl⟩ ?_
  dsimp only [List.set, idle]
  repeat (go_big_quiet_step (fail))
  first | refine wpQuiet_nil ?_ | refine wpQuiet_idle rfl rfl rfl ?_
  rintro _ ⟨n16, rfl⟩
  go_wp2
  rw [rounds_succ]
  go_wp2
  refine wp_region_tail (C := fun w' => ∃ n, w' = World.drewN _ n) 11 _ rfl rfl rfl (by kernel_rfl) (by kernel_rfl) (by kernel_rfl) (by kernel_rfl) ⟨1, rfl⟩ ?_
  dsimp only [List.set, idle]
  repeat (go_big_quiet_step (fail))
  first | refine wpQuiet_nil ?_ | refine wpQuiet_idle rfl rfl rfl ?_
  rintro _ ⟨n17, rfl⟩
  go_wp2
  rw [rounds_succ]
  go_wp2
  go_end0
  go_wp2
  obtain ⟨N2, hN, HN2, lN2, uN2⟩ : ∃ N : Int, bits .or .u64 (m2 / 67108864) (IntKind.u64.wrap (m3 * 33554432)) = N ∧ Hid (N = m2 / 67108864 + m3 * 33554432 % 18446744073709551616) ∧ 0 ≤ N ∧ N < 18446744073709551616 :=
    ⟨_, rfl, by unfold Hid; rw [IntKind.wrap_u64]; exact or_sum 25 (m2 / 67108864) _ (by omega) (by omega) (by omega) (by omega) (by omega) (by omega), by rw [IntKind.wrap_u64]; rw [or_sum 25 (m2 / 67108864) _ (by omega) (by omega) (by omega) (by omega) (by omega) (by omega)]; omega, by rw [IntKind.wrap_u64]; rw [or_sum 25 (m2 / 67108864) _ (by omega) (by omega) (by omega) (by omega) (by omega) (by omega)]; omega⟩
  rw [hN]; clear hN
  refine wp_loop_rounds 9 ?_
  rw [rounds_succ]
  go_wp2
  refine wp_region_tail (C := fun w' => ∃ n, w' = World.drewN _ n) 11 _ rfl rfl rfl (by kernel_rfl) (by kernel_rfl) (by kernel_rfl) (by kernel_rfl) ⟨1, rfl⟩ ?_
  dsimp only [List.set, idle]
  repeat (go_big_quiet_step (fail))
  first | refine wpQuiet_nil ?_ | refine wpQuiet_idle rfl rfl rfl ?_
  rintro _ ⟨n20, rfl⟩
  go_wp2
  rw [rounds_succ]
  go_wp2
  refine wp_region_tail (C := fun w' => ∃ n, w' = World.drewN _ n) 11 _ rfl rfl rfl (by kernel_rfl) (by kernel_rfl) (by kernel_rfl) (by kernel_rfl) ⟨1, rfl⟩ ?_
  dsimp only [List.set, idle]
  repeat (go_big_quiet_step (fail))
  first | refine wpQuiet_nil ?_ | refine wpQuiet_idle rfl rfl rfl ?_
  rintro _ ⟨n21, rfl⟩
  go_wp2
  rw [rounds_succ]
  go_wp2
  refine wp_region_tail (C := fun w' => ∃ n, w' = World.drewN _ n) 11 _ rfl rfl rfl (by kernel_rfl) (by kernel_rfl) (by kernel_rfl) (by kernel_rfl) ⟨1, rfl⟩ ?_
  dsimp only [List.set, idle]
  repeat (go_big_quiet_step (fail))
  first | refine wpQuiet_nil ?_ | refine wpQuiet_idle rfl rfl rfl ?_
  rintro _ ⟨n22, rfl⟩
  go_wp2
  rw [rounds_succ]
  go_wp2
  refine wp_region_tail (C := fun w' => ∃ n, w' = World.drewN _ n) 11 _ rfl rfl rfl (by kernel_rfl) (by kernel_rfl) (by kernel_rfl) (by kernel_rfl) ⟨1, rfl⟩ ?_
  dsimp only [List.set, idle]
  repeat (go_big_quiet_step (fail))
  first | refine wpQuiet_nil ?_ | refine wpQuiet_idle rfl rfl rfl ?_
  rintro _ ⟨n23, rfl⟩
  go_wp2
  rw [rounds_succ]
  go_wp2
  refine wp_region_tail (C := fun w' => ∃ n, w' = World.drewN _ n) 11 _ rfl rfl rfl (by kernel_rfl) (by kernel_rfl) (by kernel_rfl) (by kernel_rfl) ⟨1, rfl⟩ ?_
  dsimp only [List.set, idle]
  repeat (go_big_quiet_step (fail))
  first | refine wpQuiet_nil ?_ | refine wpQuiet_idle rfl rfl rfl ?_
  rintro _ ⟨n24, rfl⟩
  go_wp2
  rw [rounds_succ]
  go_wp2
  refine wp_region_tail (C := fun w' => ∃ n, w' = World.drewN _ n) 11 _ rfl rfl rfl (by kernel_rfl) (by kernel_rfl) (by kernel_rfl) (by kernel_rfl) ⟨1, rfl⟩ ?_
  dsimp only [List.set, idle]
  repeat (go_big_quiet_step (fail))
  first | refine wpQuiet_nil ?_ | refine wpQuiet_idle rfl rfl rfl ?_
  rintro _ ⟨n25, rfl⟩
  go_wp2
  rw [rounds_succ]
  go_wp2
  refine wp_region_tail (C := fun w' => ∃ n, w' = World.drewN _ n) 11 _ rfl rfl rfl (by kernel_rfl) (by kernel_rfl) (by kernel_rfl) (by kernel_rfl) ⟨1, rfl⟩ ?_
  dsimp only [List.set, idle]
  repeat (go_big_quiet_step (fail))
  first | refine wpQuiet_nil ?_ | refine wpQuiet_idle rfl rfl rfl ?_
  rintro _ ⟨n26, rfl⟩
  go_wp2
  rw [rounds_succ]
  go_wp2
  refine wp_region_tail (C := fun w' => ∃ n, w' = World.drewN _ n) 11 _ rfl rfl rfl (by kernel_rfl) (by kernel_rfl) (by kernel_rfl) (by kernel_rfl) ⟨1, rfl⟩ ?_
  dsimp only [List.set, idle]
  repeat (go_big_quiet_step (fail))
  first | refine wpQuiet_nil ?_ | refine wpQuiet_idle rfl rfl rfl ?_
  rintro _ ⟨n27, rfl⟩
  go_wp2
  rw [rounds_succ]
  go_wp2
  go_end0
  go_wp2
  obtain ⟨N3, hN, HN3, lN3, uN3⟩ : ∃ N : Int, bits .or .u64 (m3 / 549755813888) (m4 * 4096) = N ∧ Hid (N = m3 / 549755813888 + m4 * 4096) ∧ 0 ≤ N ∧ N < 18446744073709551616 :=
    ⟨_, rfl, by unfold Hid; exact or_sum 12 (m3 / 549755813888) _ (by omega) (by omega) (by omega) (by omega) (by omega) (by omega), by rw [or_sum 12 (m3 / 549755813888) _ (by omega) (by omega) (by omega) (by omega) (by omega) (by omega)]; omega, by rw [or_sum 12 (m3 / 549755813888) _ (by omega) (by omega) (by omega) (by omega) (by omega) (by omega)]; omega⟩
  rw [hN]; clear hN
  refine wp_loop_rounds 9 ?_
  rw [rounds_succ]
  go_wp2
  refine wp_region_tail (C := fun w' => ∃ n, w' = World.drewN _ n) 11 _ rfl rfl rfl (by kernel_rfl) (by kernel_rfl) (by kernel_rfl) (by kernel_rfl) ⟨1, rfl⟩ ?_
  dsimp only [List.set, idle]
  repeat (go_big_quiet_step (fail))
  first | refine wpQuiet_nil ?_ | refine wpQuiet_idle rfl rfl rfl ?_
  rintro _ ⟨n30, rfl⟩
  go_wp2
  rw [rounds_succ]
  go_wp2
  refine wp_region_tail (C := fun w' => ∃ n, w' = World.drewN _ n) 11 _ rfl rfl rfl (by kernel_rfl) (by kernel_rfl) (by kernel_rfl) (by kernel_rfl) ⟨1, rfl⟩ ?_
  dsimp only [List.set, idle]
  repeat (go_big_quiet_step (fail))
  first | refine wpQuiet_nil ?_ | refine wpQuiet_idle rfl rfl rfl ?_
  rintro _ ⟨n31, rfl⟩
  go_wp2
  rw [rounds_succ]
  go_wp2
  refine wp_region_tail (C := fun w' => ∃ n, w' = World.drewN _ n) 11 _ rfl rfl rfl (by kernel_rfl) (by kernel_rfl) (by kernel_rfl) (by kernel_rfl) ⟨1, rfl⟩ ?_
  dsimp only [List.set, idle]
  repeat (go_big_quiet_step (fail))
  first | refine wpQuiet_nil ?_ | refine wpQuiet_idle rfl rfl rfl ?_
  rintro _ ⟨n32, rfl⟩
  go_wp2
  rw [rounds_succ]
  go_wp2
  refine wp_region_tail (C := fun w' => ∃ n, w' = World.drewN _ n) 11 _ rfl rfl rfl (by kernel_rfl) (by kernel_rfl) (by kernel_rfl) (by kernel_rfl) ⟨1, rfl⟩ ?_
  dsimp only [List.set, idle]
  repeat (go_big_quiet_step (fail))
  first | refine wpQuiet_nil ?_ | refine wpQuiet_idle rfl rfl rfl ?_
  rintro _ ⟨n33, rfl⟩
  go_wp2
  rw [rounds_succ]
  go_wp2
  refine wp_region_tail (C := fun w' => ∃ n, w' = World.drewN _ n) 11 _ rfl rfl rfl (by kernel_rfl) (by kernel_rfl) (by kernel_rfl) (by kernel_rfl) ⟨1, rfl⟩ ?_
  dsimp only [List.set, idle]
  repeat (go_big_quiet_step (fail))
  first | refine wpQuiet_nil ?_ | refine wpQuiet_idle rfl rfl rfl ?_
  rintro _ ⟨n34, rfl⟩
  go_wp2
  rw [rounds_succ]
  go_wp2
  refine wp_region_tail (C := fun w' => ∃ n, w' = World.drewN _ n) 11 _ rfl rfl rfl (by kernel_rfl) (by kernel_rfl) (by kernel_rfl) (by kernel_rfl) ⟨1, rfl⟩ ?_
  dsimp only [List.set, idle]
  repeat (go_big_quiet_step (fail))
  first | refine wpQuiet_nil ?_ | refine wpQuiet_idle rfl rfl rfl ?_
  rintro _ ⟨n35, rfl⟩
  go_wp2
  rw [rounds_succ]
  go_wp2
  refine wp_region_tail (C := fun w' => ∃ n, w' = World.drewN _ n) 11 _ rfl rfl rfl (by kernel_rfl) (by kernel_rfl) (by kernel_rfl) (by kernel_rfl) ⟨1, rfl⟩ ?_
  dsimp only [List.set, idle]
  repeat (go_big_quiet_step (fail))
  first | refine wpQuiet_nil ?_ | refine wpQuiet_idle rfl rfl rfl ?_
  rintro _ ⟨n36, rfl⟩
  go_wp2
  rw [rounds_succ]
  go_wp2
  refine wp_region_tail (C := fun w' => ∃ n, w' = World.drewN _ n) 11 _ rfl rfl rfl (by kernel_rfl) (by kernel_rfl) (by kernel_rfl) (by kernel_rfl) ⟨1, rfl⟩ ?_
  dsimp only [List.set, idle]
  repeat (go_big_quiet_step (fail))
  first | refine wpQuiet_nil ?_ | refine wpQuiet_idle rfl rfl rfl ?_
  rintro _ ⟨n37, rfl⟩
  go_wp2
  rw [rounds_succ]
  go_wp2
  go_end0
  dsimp only
  have rZ2 : ∀ (o1 o2 : Obj) (k : Nat), (((w1.alloc o1).alloc o2).drewN k).heap[w.heap.size + 1]? = some (.cells #[.int .u8 0, .int .u8 0, .int .u8 0, .int .u8 0, .int .u8 0, .int .u8 0, .int .u8 0, .int .u8 0, .int .u8 0, .int .u8 0, .int .u8 0, .int .u8 0, .int .u8 0, .int .u8 0, .int .u8 0, .int .u8 0, .int .u8 0, .int .u8 0, .int .u8 0, .int .u8 0, .int .u8 0, .int .u8 0, .int .u8 0, .int .u8 0, .int .u8 0, .int .u8 0, .int .u8 0, .int .u8 0, .int .u8 0, .int .u8 0, .int .u8 0, .int .u8 0] 23 (0, 0)) := fun o1 o2 k => by
    rw [World.heap_drewN]; exact (Go.heap_alloc_old _ _ (by simp; omega)).trans ((Go.heap_alloc_old _ _ (by omega)).trans rZ1)
  have hbw2 : ∀ (o1 o2 : Obj) (k : Nat), Below w.heap.size w (((w1.alloc o1).alloc o2).drewN k) := fun o1 o2 k => below_drN ((hbw1.alloc (by omega) _).alloc (by simp; omega) _) k
  go_wp2_with (first | (refine wpList_load_row rfl 23 _ rfl (w1.heap.size + 1) rfl 23 #[.int .u8 (N0 % 256), .int .u8 (N0 / 256 % 256), .int .u8 (N0 / 65536 % 256), .int .u8 (N0 / 16777216 % 256), .int .u8 (N0 / 4294967296 % 256), .int .u8 (N0 / 1099511627776 % 256), .int .u8 (N0 / 281474976710656 % 256), .int .u8 (N0 / 72057594037927936), .int .u8 (N1 % 256), .int .u8 (N1 / 256 % 256), .int .u8 (N1 / 65536 % 256), .int .u8 (N1 / 16777216 % 256), .int .u8 (N1 / 4294967296 % 256), .int .u8 (N1 / 1099511627776 % 256), .int .u8 (N1 / 281474976710656 % 256), .int .u8 (N1 / 72057594037927936), .int .u8 (N2 % 256), .int .u8 (N2 / 256 % 256), .int .u8 (N2 / 65536 % 256), .int .u8 (N2 / 16777216 % 256), .int .u8 (N2 / 4294967296 % 256), .int .u8 (N2 / 1099511627776 % 256), .int .u8 (N2 / 281474976710656 % 256), .int .u8 (N2 / 72057594037927936), .int .u8 (N3 % 256), .int .u8 (N3 / 256 % 256), .int .u8 (N3 / 65536 % 256), .int .u8 (N3 / 16777216 % 256), .int .u8 (N3 / 4294967296 % 256), .int .u8 (N3 / 1099511627776 % 256), .int .u8 (N3 / 281474976710656 % 256), .int .u8 (N3 / 72057594037927936)] (0, 0) _ (by rw [World.heap_drewN, hp2_1]) Tryd.underlying23 rfl (by kernel_rfl) ?_) | (refine wpList_store_row rfl 23 _ _ rfl (w.heap.size + 1) #[.int .u8 (N0 % 256), .int .u8 (N0 / 256 % 256), .int .u8 (N0 / 65536 % 256), .int .u8 (N0 / 16777216 % 256), .int .u8 (N0 / 4294967296 % 256), .int .u8 (N0 / 1099511627776 % 256), .int .u8 (N0 / 281474976710656 % 256), .int .u8 (N0 / 72057594037927936), .int .u8 (N1 % 256), .int .u8 (N1 / 256 % 256), .int .u8 (N1 / 65536 % 256), .int .u8 (N1 / 16777216 % 256), .int .u8 (N1 / 4294967296 % 256), .int .u8 (N1 / 1099511627776 % 256), .int .u8 (N1 / 281474976710656 % 256), .int .u8 (N1 / 72057594037927936), .int .u8 (N2 % 256), .int .u8 (N2 / 256 % 256), .int .u8 (N2 / 65536 % 256), .int .u8 (N2 / 16777216 % 256), .int .u8 (N2 / 4294967296 % 256), .int .u8 (N2 / 1099511627776 % 256), .int .u8 (N2 / 281474976710656 % 256), .int .u8 (N2 / 72057594037927936), .int .u8 (N3 % 256), .int .u8 (N3 / 256 % 256), .int .u8 (N3 / 65536 % 256), .int .u8 (N3 / 16777216 % 256), .int .u8 (N3 / 4294967296 % 256), .int .u8 (N3 / 1099511627776 % 256), .int .u8 (N3 / 281474976710656 % 256), .int .u8 (N3 / 72057594037927936)] rfl rfl 23 _ (rZ2 _ _ _) (by kernel_rfl) rfl (by kernel_rfl) ?_) | fail)
  have hVN : V = N0 + 18446744073709551616 * (N1 + 18446744073709551616 * (N2 + 18446744073709551616 * N3)) := by
    rw [HN0.out, HN1.out, HN2.out, HN3.out, words_v5]; exact HV.out.symm
  obtain ⟨k0, k1, k2, k3, k4, k5, k6, k7, k8, k9, k10, k11, k12, k13, k14, k15, k16, k17, k18, k19, k20, k21, k22, k23, k24, k25, k26, k27, k28, k29, k30, k31⟩ := words_bytes N0 N1 N2 N3 lN0 uN0 lN1 uN1 lN2 uN2 lN3 uN3
  refine bodyPost_ret (v := .agg #[.int .u8 (N0 % 256), .int .u8 (N0 / 256 % 256), .int .u8 (N0 / 65536 % 256), .int .u8 (N0 / 16777216 % 256), .int .u8 (N0 / 4294967296 % 256), .int .u8 (N0 / 1099511627776 % 256), .int .u8 (N0 / 281474976710656 % 256), .int .u8 (N0 / 72057594037927936), .int .u8 (N1 % 256), .int .u8 (N1 / 256 % 256), .int .u8 (N1 / 65536 % 256), .int .u8 (N1 / 16777216 % 256), .int .u8 (N1 / 4294967296 % 256), .int .u8 (N1 / 1099511627776 % 256), .int .u8 (N1 / 281474976710656 % 256), .int .u8 (N1 / 72057594037927936), .int .u8 (N2 % 256), .int .u8 (N2 / 256 % 256), .int .u8 (N2 / 65536 % 256), .int .u8 (N2 / 16777216 % 256), .int .u8 (N2 / 4294967296 % 256), .int .u8 (N2 / 1099511627776 % 256), .int .u8 (N2 / 281474976710656 % 256), .int .u8 (N2 / 72057594037927936), .int .u8 (N3 % 256), .int .u8 (N3 / 256 % 256), .int .u8 (N3 / 65536 % 256), .int .u8 (N3 / 16777216 % 256), .int .u8 (N3 / 4294967296 % 256), .int .u8 (N3 / 1099511627776 % 256), .int .u8 (N3 / 281474976710656 % 256), .int .u8 (N3 / 72057594037927936)]) (results_cell_row Tryd.results55 _ _ (w.heap.size + 1) _ _ _ _ rfl (setRow_heap _ _ _ _ _ _ (rZ2 _ _ _)) Tryd.underlying23 rfl (by kernel_rfl)) rfl ⟨?_, below_setRow (hbw2 _ _ _) (by omega) _⟩
  rw [hVN, k0, k1, k2, k3, k4, k5, k6, k7, k8, k9, k10, k11, k12, k13, k14, k15, k16, k17, k18, k19, k20, k21, k22, k23, k24, k25, k26, k27, k28, k29, k30, k31]

end Go.Proofs.YtgfhoabgbgddbaaDoor

