import Derived.Test.YtnohfbpmckhbbaaDoorProg
import Derived.WalkKit
import Derived.WalkSpells
import Derived.WalkLawsBesides
import Derived.Lib.QuietBelow
import Derived.BigQuiet
import Derived.Test.YtnohfbpmckhbbaaDoorS0
import Derived.Test.YtnohfbpmckhbbaaDoorS1
namespace Go.Proofs.YtnohfbpmckhbbaaDoor
set_option maxRecDepth 100000
open Go.RowKit Go.Sort
attribute [local go_sem] setCell_drewN alloc_drewN


set_option maxHeartbeats 4000000 in
theorem bytes_any (a0 a1 a2 a3 a4 : Int) (lo0 : 0 ≤ a0) (hi0 : a0 < 4503599627370496) (lo1 : 0 ≤ a1) (hi1 : a1 < 4503599627370496) (lo2 : 0 ≤ a2) (hi2 : a2 < 4503599627370496) (lo3 : 0 ≤ a3) (hi3 : a3 < 4503599627370496) (lo4 : 0 ≤ a4) (hi4 : a4 < 4503599627370496) (w : World) :
    Calls Tryd.prog 10 #[.agg #[.int .u64 a0, .int .u64 a1, .int .u64 a2, .int .u64 a3, .int .u64 a4]] w fun r w' => r = .returned (.agg #[.int .u8 (byt (v5 a0 a1 a2 a3 a4 % prm) 0), .int .u8 (byt (v5 a0 a1 a2 a3 a4 % prm) 1), .int .u8 (byt (v5 a0 a1 a2 a3 a4 % prm) 2), .int .u8 (byt (v5 a0 a1 a2 a3 a4 % prm) 3), .int .u8 (byt (v5 a0 a1 a2 a3 a4 % prm) 4), .int .u8 (byt (v5 a0 a1 a2 a3 a4 % prm) 5), .int .u8 (byt (v5 a0 a1 a2 a3 a4 % prm) 6), .int .u8 (byt (v5 a0 a1 a2 a3 a4 % prm) 7), .int .u8 (byt (v5 a0 a1 a2 a3 a4 % prm) 8), .int .u8 (byt (v5 a0 a1 a2 a3 a4 % prm) 9), .int .u8 (byt (v5 a0 a1 a2 a3 a4 % prm) 10), .int .u8 (byt (v5 a0 a1 a2 a3 a4 % prm) 11), .int .u8 (byt (v5 a0 a1 a2 a3 a4 % prm) 12), .int .u8 (byt (v5 a0 a1 a2 a3 a4 % prm) 13), .int .u8 (byt (v5 a0 a1 a2 a3 a4 % prm) 14), .int .u8 (byt (v5 a0 a1 a2 a3 a4 % prm) 15), .int .u8 (byt (v5 a0 a1 a2 a3 a4 % prm) 16), .int .u8 (byt (v5 a0 a1 a2 a3 a4 % prm) 17), .int .u8 (byt (v5 a0 a1 a2 a3 a4 % prm) 18), .int .u8 (byt (v5 a0 a1 a2 a3 a4 % prm) 19), .int .u8 (byt (v5 a0 a1 a2 a3 a4 % prm) 20), .int .u8 (byt (v5 a0 a1 a2 a3 a4 % prm) 21), .int .u8 (byt (v5 a0 a1 a2 a3 a4 % prm) 22), .int .u8 (byt (v5 a0 a1 a2 a3 a4 % prm) 23), .int .u8 (byt (v5 a0 a1 a2 a3 a4 % prm) 24), .int .u8 (byt (v5 a0 a1 a2 a3 a4 % prm) 25), .int .u8 (byt (v5 a0 a1 a2 a3 a4 % prm) 26), .int .u8 (byt (v5 a0 a1 a2 a3 a4 % prm) 27), .int .u8 (byt (v5 a0 a1 a2 a3 a4 % prm) 28), .int .u8 (byt (v5 a0 a1 a2 a3 a4 % prm) 29), .int .u8 (byt (v5 a0 a1 a2 a3 a4 % prm) 30), .int .u8 (byt (v5 a0 a1 a2 a3 a4 % prm) 31)]) ∧ Below w.heap.size w w' := by
  have hV0 : Hid (0 ≤ v5 a0 a1 a2 a3 a4 % prm ∧ v5 a0 a1 a2 a3 a4 % prm < 57896044618658097711785492504343953926634992332820282019728792003956564819968) := by unfold Hid prm; omega
  have hL := fun W => least_any a0 a1 a2 a3 a4 lo0 hi0 lo1 hi1 lo2 hi2 lo3 hi3 lo4 hi4 W
  generalize v5 a0 a1 a2 a3 a4 % prm = V at *
  have HL := hide hL; clear hL lo0 hi0 lo1 hi1 lo2 hi2 lo3 hi3 lo4 hi4
  go_enter Tryd.func10, Tryd.ntmps10
  go_wp2_with (first | (refine wpList_load_row rfl 26 _ rfl w.heap.size rfl 26 #[.int .u64 a0, .int .u64 a1, .int .u64 a2, .int .u64 a3, .int .u64 a4] (0, 0) _ (hp2_0 w _ _) Tryd.underlying26 rfl (by kernel_rfl) ?_) | fail)
  refine (HL.out _).mono ?_
  rintro r w1 ⟨rfl, hb⟩
  have hs1 := hb.size
  simp only [World.size_alloc] at hs1
  have rZ1 : w1.heap[w.heap.size + 1]? = some (.cells #[.int .u8 0, .int .u8 0, .int .u8 0, .int .u8 0, .int .u8 0, .int .u8 0, .int .u8 0, .int .u8 0, .int .u8 0, .int .u8 0, .int .u8 0, .int .u8 0, .int .u8 0, .int .u8 0, .int .u8 0, .int .u8 0, .int .u8 0, .int .u8 0, .int .u8 0, .int .u8 0, .int .u8 0, .int .u8 0, .int .u8 0, .int .u8 0, .int .u8 0, .int .u8 0, .int .u8 0, .int .u8 0, .int .u8 0, .int .u8 0, .int .u8 0, .int .u8 0] 34 (0, 0)) := (hb.block _ (by simp)).trans (hp2_1 w _ _)
  have hbw1 : Below w.heap.size w w1 := (((Below.refl _ _).alloc (Nat.le_refl _) _).alloc (by simp) _).trans (hb.mono (by simp; omega))
  clear hb HL
  obtain ⟨l0, u0⟩ := lb_bd V 0; obtain ⟨l1, u1⟩ := lb_bd V 1; obtain ⟨l2, u2⟩ := lb_bd V 2; obtain ⟨l3, u3⟩ := lb_bd V 3; obtain ⟨l4, u4⟩ := lb_bd V 4
  have hV := v5_lb V hV0.out.1 hV0.out.2
  have HV := hide hV; clear hV
  generalize lb V 0 = m0 at *; generalize lb V 1 = m1 at *; generalize lb V 2 = m2 at *; generalize lb V 3 = m3 at *; generalize lb V 4 = m4 at *
  go_wp2_with (first | (refine wpList_store_row rfl 24 _ _ rfl w1.heap.size #[.int .u64 m0, .int .u64 m1, .int .u64 m2, .int .u64 m3, .int .u64 m4] rfl rfl 24 _ (hp1_0 w1 _) (by kernel_rfl) rfl (by kernel_rfl) ?_; rw [setRow_alloc_new _ _ _ _ _ _ rfl]) | go_in)

  obtain ⟨N0, hN, HN0, lN0, uN0⟩ : ∃ N : Int, bits .or .u64 m0 (IntKind.u64.wrap (m1 * 2251799813685248)) = N ∧ Hid (N = m0 + m1 * 2251799813685248 % 18446744073709551616) ∧ 0 ≤ N ∧ N < 18446744073709551616 :=
    ⟨_, rfl, by unfold Hid; rw [IntKind.wrap_u64]; exact or_sum 51 m0 _ (by omega) (by omega) (by omega) (by omega) (by omega) (by omega), by rw [IntKind.wrap_u64]; rw [or_sum 51 m0 _ (by omega) (by omega) (by omega) (by omega) (by omega) (by omega)]; omega, by rw [IntKind.wrap_u64]; rw [or_sum 51 m0 _ (by omega) (by omega) (by omega) (by omega) (by omega) (by omega)]; omega⟩
  rw [hN]; clear hN
  refine wp_loop_rounds 9 ?_
  rw [rounds_succ]
  go_wp2
  refine wp_region_tail (C := fun w' => ∃ n, w' = World.drewN _ n) 11 _ rfl rfl rfl (by kernel_rfl) (by kernel_rfl) (by kernel_rfl) (by kernel_rfl) ⟨1, rfl⟩ ?_
  dsimp only [List.set, idle]
  repeat (go_big_quiet_step (fail))
  first | refine wpQuiet_nil ?_ | refine wpQuiet_idle rfl rfl rfl ?_
  rintro _ ⟨n00, rfl⟩
  go_wp2
  rw [rounds_succ]
  go_wp2
  refine wp_region_tail (C := fun w' => ∃ n, w' = World.drewN _ n) 11 _ rfl rfl rfl (by kernel_rfl) (by kernel_rfl) (by kernel_rfl) (by kernel_rfl) ⟨1, rfl⟩ ?_
  dsimp only [List.set, idle]
  repeat (go_big_quiet_step (fail))
  first | refine wpQuiet_nil ?_ | refine wpQuiet_idle rfl rfl rfl ?_
  rintro _ ⟨n01, rfl⟩
  go_wp2
  rw [rounds_succ]
  go_wp2
  refine wp_region_tail (C := fun w' => ∃ n, w' = World.drewN _ n) 11 _ rfl rfl rfl (by kernel_rfl) (by kernel_rfl) (by kernel_rfl) (by kernel_rfl) ⟨1, rfl⟩ ?_
  dsimp only [List.set, idle]
  repeat (go_big_quiet_step (fail))
  first | refine wpQuiet_nil ?_ | refine wpQuiet_idle rfl rfl rfl ?_
  rintro _ ⟨n02, rfl⟩
  go_wp2
  rw [rounds_succ]
  go_wp2
  refine wp_region_tail (C := fun w' => ∃ n, w' = World.drewN _ n) 11 _ rfl rfl rfl (by kernel_rfl) (by kernel_rfl) (by kernel_rfl) (by kernel_rfl) ⟨1, rfl⟩ ?_
  dsimp only [List.set, idle]
  repeat (go_big_quiet_step (fail))
  first | refine wpQuiet_nil ?_ | refine wpQuiet_idle rfl rfl rfl ?_
  rintro _ ⟨n03, rfl⟩
  go_wp2
  rw [rounds_succ]
  go_wp2
  refine wp_region_tail (C := fun w' => ∃ n, w' = World.drewN _ n) 11 _ rfl rfl rfl (by kernel_rfl) (by kernel_rfl) (by kernel_rfl) (by kernel_rfl) ⟨1, rfl⟩ ?_
  dsimp only [List.set, idle]
  repeat (go_big_quiet_step (fail))
  first | refine wpQuiet_nil ?_ | refine wpQuiet_idle rfl rfl rfl ?_
  rintro _ ⟨n04, rfl⟩
  go_wp2
  rw [rounds_succ]
  go_wp2
  refine wp_region_tail (C := fun w' => ∃ n, w' = World.drewN _ n) 11 _ rfl rfl rfl (by kernel_rfl) (by kernel_rfl) (by kernel_rfl) (by kernel_rfl) ⟨1, rfl⟩ ?_
  dsimp only [List.set, idle]
  repeat (go_big_quiet_step (fail))
  first | refine wpQuiet_nil ?_ | refine wpQuiet_idle rfl rfl rfl ?_
  rintro _ ⟨n05, rfl⟩
  go_wp2
  rw [rounds_succ]
  go_wp2
  refine wp_region_tail (C := fun w' => ∃ n, w' = World.drewN _ n) 11 _ rfl rfl rfl (by kernel_rfl) (by kernel_rfl) (by kernel_rfl) (by kernel_rfl) ⟨1, rfl⟩ ?_
  dsimp only [List.set, idle]
  repeat (go_big_quiet_step (fail))
  first | refine wpQuiet_nil ?_ | refine wpQuiet_idle rfl rfl rfl ?_
  rintro _ ⟨n06, rfl⟩
  go_wp2
  rw [rounds_succ]
  go_wp2
  refine wp_region_tail (C := fun w' => ∃ n, w' = World.drewN _ n) 11 _ rfl rfl rfl (by kernel_rfl) (by kernel_rfl) (by kernel_rfl) (by kernel_rfl) ⟨1, rfl⟩ ?_
  dsimp only [List.set, idle]
  repeat (go_big_quiet_step (fail))
  first | refine wpQuiet_nil ?_ | refine wpQuiet_idle rfl rfl rfl ?_
  rintro _ ⟨n07, rfl⟩
  go_wp2
  rw [rounds_succ]
  go_wp2
  go_end0
  go_wp2
  obtain ⟨N1, hN, HN1, lN1, uN1⟩ : ∃ N : Int, bits .or .u64 (m1 / 8192) (IntKind.u64.wrap (m2 * 274877906944)) = N ∧ Hid (N = m1 / 8192 + m2 * 274877906944 % 18446744073709551616) ∧ 0 ≤ N ∧ N < 18446744073709551616 :=
    ⟨_, rfl, by unfold Hid; rw [IntKind.wrap_u64]; exact or_sum 38 (m1 / 8192) _ (by omega) (by omega) (by omega) (by omega) (by omega) (by omega), by rw [IntKind.wrap_u64]; rw [or_sum 38 (m1 / 8192) _ (by omega) (by omega) (by omega) (by omega) (by omega) (by omega)]; omega, by rw [IntKind.wrap_u64]; rw [or_sum 38 (m1 / 8192) _ (by omega) (by omega) (by omega) (by omega) (by omega) (by omega)]; omega⟩
  rw [hN]; clear hN
  refine wp_loop_rounds 9 ?_
  rw [rounds_succ]
  go_wp2
  refine wp_region_tail (C := fun w' => ∃ n, w' = World.drewN _ n) 11 _ rfl rfl rfl (by kernel_rfl) (by kernel_rfl) (by kernel_rfl) (by kernel_rfl) ⟨1, rfl⟩ ?_
  dsimp only [List.set, idle]
  repeat (go_big_quiet_step (fail))
  first | refine wpQuiet_nil ?_ | refine wpQuiet_idle rfl rfl rfl ?_
  rintro _ ⟨n10, rfl⟩
  go_wp2
  rw [rounds_succ]
  go_wp2
  refine wp_region_tail (C := fun w' => ∃ n, w' = World.drewN _ n) 11 _ rfl rfl rfl (by kernel_rfl) (by kernel_rfl) (by kernel_rfl) (by kernel_rfl) ⟨1, rfl⟩ ?_
  dsimp only [List.set, idle]
  repeat (go_big_quiet_step (fail))
  first | refine wpQuiet_nil ?_ | refine wpQuiet_idle rfl rfl rfl ?_
  rintro _ ⟨n11, rfl⟩
  go_wp2
  rw [rounds_succ]
  go_wp2
  refine wp_region_tail (C := fun w' => ∃ n, w' = World.drewN _ n) 11 _ rfl rfl rfl (by kernel_rfl) (by kernel_rfl) (by kernel_rfl) (by kernel_rfl) ⟨1, rfl⟩ ?_
  dsimp only [List.set, idle]
  repeat (go_big_quiet_step (fail))
  first | refine wpQuiet_nil ?_ | refine wpQuiet_idle rfl rfl rfl ?_
  rintro _ ⟨n12, rfl⟩
  go_wp2
  rw [rounds_succ]
  go_wp2
  refine wp_region_tail (C := fun w' => ∃ n, w' = World.drewN _ n) 11 _ rfl rfl rfl (by kernel_rfl) (by kernel_rfl) (by kernel_rfl) (by kernel_rfl) ⟨1, rfl⟩ ?_
  dsimp only [List.set, idle]
  repeat (go_big_quiet_step (fail))
  first | refine wpQuiet_nil ?_ | refine wpQuiet_idle rfl rfl rfl ?_
  rintro _ ⟨n13, rfl⟩
  go_wp2
  rw [rounds_succ]
  go_wp2
  refine wp_region_tail (C := fun w' => ∃ n, w' = World.drewN _ n) 11 _ rfl rfl rfl (by kernel_rfl) (by kernel_rfl) (by kernel_rfl) (by kernel_rfl) ⟨1, rfl⟩ ?_
  dsimp only [List.set, idle]
  repeat (go_big_quiet_step (fail))
  first | refine wpQuiet_nil ?_ | refine wpQuiet_idle rfl rfl rfl ?_
  rintro _ ⟨n14, rfl⟩
  go_wp2
  rw [rounds_succ]
  go_wp2
  refine wp_region_tail (C := fun w' => ∃ n, w' = World.drewN _ n) 11 _ rfl rfl rfl (by kernel_rfl) (by kernel_rfl) (by kernel_rfl) (by kernel_rfl) ⟨1, rfl⟩ ?_
  dsimp only [List.set, idle]
  repeat (go_big_quiet_step (fail))
  first | refine wpQuiet_nil ?_ | refine wpQuiet_idle rfl rfl rfl ?_
  rintro _ ⟨n15, rfl⟩
  go_wp2
  rw [rounds_succ]
  go_wp2
  refine wp_region_tail (C := fun w' => ∃ n, w' = World.drewN _ n) 11 _ rfl rfl rfl (by kernel_rfl) (by kernel_rfl) (by kernel_rfl) (by kernel_rfl) ⟨1, rfl⟩ ?_
  dsimp only [List.set, idle]
  repeat (go_big_quiet_step (fail))
  first | refine wpQuiet_nil ?_ | refine wpQuiet_idle rfl rfl rfl ?_
  rintro _ ⟨n16, rfl⟩
  go_wp2
  rw [rounds_succ]
  go_wp2
  refine wp_region_tail (C := fun w' => ∃ n, w' = World.drewN _ n) 11 _ rfl rfl rfl (by kernel_rfl) (by kernel_rfl) (by kernel_rfl) (by kernel_rfl) ⟨1, rfl⟩ ?_
  dsimp only [List.set, idle]
  repeat (go_big_quiet_step (fail))
  first | refine wpQuiet_nil ?_ | refine wpQuiet_idle rfl rfl rfl ?_
  rintro _ ⟨n17, rfl⟩
  go_wp2
  rw [rounds_succ]
  go_wp2
  go_end0
  go_wp2
  obtain ⟨N2, hN, HN2, lN2, uN2⟩ : ∃ N : Int, bits .or .u64 (m2 / 67108864) (IntKind.u64.wrap (m3 * 33554432)) = N ∧ Hid (N = m2 / 67108864 + m3 * 33554432 % 18446744073709551616) ∧ 0 ≤ N ∧ N < 18446744073709551616 :=
    ⟨_, rfl, by unfold Hid; rw [IntKind.wrap_u64]; exact or_sum 25 (m2 / 67108864) _ (by omega) (by omega) (by omega) (by omega) (by omega) (by omega), by rw [IntKind.wrap_u64]; rw [or_sum 25 (m2 / 67108864) _ (by omega) (by omega) (by omega) (by omega) (by omega) (by omega)]; omega, by rw [IntKind.wrap_u64]; rw [or_sum 25 (m2 / 67108864) _ (by omega) (by omega) (by omega) (by omega) (by omega) (by omega)]; omega⟩
  rw [hN]; clear hN
  refine wp_loop_rounds 9 ?_
  rw [rounds_succ]
  go_wp2
  refine wp_region_tail (C := fun w' => ∃ n, w' = World.drewN _ n) 11 _ rfl rfl rfl (by kernel_rfl) (by kernel_rfl) (by kernel_rfl) (by kernel_rfl) ⟨1, rfl⟩ ?_
  dsimp only [List.set, idle]
  repeat (go_big_quiet_step (fail))
  first | refine wpQuiet_nil ?_ | refine wpQuiet_idle rfl rfl rfl ?_
  rintro _ ⟨n20, rfl⟩
  go_wp2
  rw [rounds_succ]
  go_wp2
  refine wp_region_tail (C := fun w' => ∃ n, w' = World.drewN _ n) 11 _ rfl rfl rfl (by kernel_rfl) (by kernel_rfl) (by kernel_rfl) (by kernel_rfl) ⟨1, rfl⟩ ?_
  dsimp only [List.set, idle]
  repeat (go_big_quiet_step (fail))
  first | refine wpQuiet_nil ?_ | refine wpQuiet_idle rfl rfl rfl ?_
  rintro _ ⟨n21, rfl⟩
  go_wp2
  rw [rounds_succ]
  go_wp2
  refine wp_region_tail (C := fun w' => ∃ n, w' = World.drewN _ n) 11 _ rfl rfl rfl (by kernel_rfl) (by kernel_rfl) (by kernel_rfl) (by kernel_rfl) ⟨1, rfl⟩ ?_
  dsimp only [List.set, idle]
  repeat (go_big_quiet_step (fail))
  first | refine wpQuiet_nil ?_ | refine wpQuiet_idle rfl rfl rfl ?_
  rintro _ ⟨n22, rfl⟩
  go_wp2
  rw [rounds_succ]
  go_wp2
  refine wp_region_tail (C := fun w' => ∃ n, w' = World.drewN _ n) 11 _ rfl rfl rfl (by kernel_rfl) (by kernel_rfl) (by kernel_rfl) (by kernel_rfl) ⟨1, rfl⟩ ?_
  dsimp only [List.set, idle]
  repeat (go_big_quiet_step (fail))
  first | refine wpQuiet_nil ?_ | refine wpQuiet_idle rfl rfl rfl ?_
  rintro _ ⟨n23, rfl⟩
  go_wp2
  rw [rounds_succ]
  go_wp2
  refine wp_region_tail (C := fun w' => ∃ n, w' = World.drewN _ n) 11 _ rfl rfl rfl (by kernel_rfl) (by kernel_rfl) (by kernel_rfl) (by kernel_rfl) ⟨1, rfl⟩ ?_
  dsimp only [List.set, idle]
  repeat (go_big_quiet_step (fail))
  first | refine wpQuiet_nil ?_ | refine wpQuiet_idle rfl rfl rfl ?_
  rintro _ ⟨n24, rfl⟩
  go_wp2
  rw [rounds_succ]
  go_wp2
  refine wp_region_tail (C := fun w' => ∃ n, w' = World.drewN _ n) 11 _ rfl rfl rfl (by kernel_rfl) (by kernel_rfl) (by kernel_rfl) (by kernel_rfl) ⟨1, rfl⟩ ?_
  dsimp only [List.set, idle]
  repeat (go_big_quiet_step (fail))
  first | refine wpQuiet_nil ?_ | refine wpQuiet_idle rfl rfl rfl ?_
  rintro _ ⟨n25, rfl⟩
  go_wp2
  rw [rounds_succ]
  go_wp2
  refine wp_region_tail (C := fun w' => ∃ n, w' = World.drewN _ n) 11 _ rfl rfl rfl (by kernel_rfl) (by kernel_rfl) (by kernel_rfl) (by kernel_rfl) ⟨1, rfl⟩ ?_
  dsimp only [List.set, idle]
  repeat (go_big_quiet_step (fail))
  first | refine wpQuiet_nil ?_ | refine wpQuiet_idle rfl rfl rfl ?_
  rintro _ ⟨n26, rfl⟩
  go_wp2
  rw [rounds_succ]
  go_wp2
  refine wp_region_tail (C := fun w' => ∃ n, w' = World.drewN _ n) 11 _ rfl rfl rfl (by kernel_rfl) (by kernel_rfl) (by kernel_rfl) (by kernel_rfl) ⟨1, rfl⟩ ?_
  dsimp only [List.set, idle]
  repeat (go_big_quiet_step (fail))
  first | refine wpQuiet_nil ?_ | refine wpQuiet_idle rfl rfl rfl ?_
  rintro _ ⟨n27, rfl⟩
  go_wp2
  rw [rounds_succ]
  go_wp2
  go_end0
  go_wp2
  obtain ⟨N3, hN, HN3, lN3, uN3⟩ : ∃ N : Int, bits .or .u64 (m3 / 549755813888) (m4 * 4096) = N ∧ Hid (N = m3 / 549755813888 + m4 * 4096) ∧ 0 ≤ N ∧ N < 18446744073709551616 :=
    ⟨_, rfl, by unfold Hid; exact or_sum 12 (m3 / 549755813888) _ (by omega) (by omega) (by omega) (by omega) (by omega) (by omega), by rw [or_sum 12 (m3 / 549755813888) _ (by omega) (by omega) (by omega) (by omega) (by omega) (by omega)]; omega, by rw [or_sum 12 (m3 / 549755813888) _ (by omega) (by omega) (by omega) (by omega) (by omega) (by omega)]; omega⟩
  rw [hN]; clear hN
  refine wp_loop_rounds 9 ?_
  rw [rounds_succ]
  go_wp2
  refine wp_region_tail (C := fun w' => ∃ n, w' = World.drewN _ n) 11 _ rfl rfl rfl (by kernel_rfl) (by kernel_rfl) (by kernel_rfl) (by kernel_rfl) ⟨1, rfl⟩ ?_
  dsimp only [List.set, idle]
  repeat (go_big_quiet_step (fail))
  first | refine wpQuiet_nil ?_ | refine wpQuiet_idle rfl rfl rfl ?_
  rintro _ ⟨n30, rfl⟩
  go_wp2
  rw [rounds_succ]
  go_wp2
  refine wp_region_tail (C := fun w' => ∃ n, w' = World.drewN _ n) 11 _ rfl rfl rfl (by kernel_rfl) (by kernel_rfl) (by kernel_rfl) (by kernel_rfl) ⟨1, rfl⟩ ?_
  dsimp only [List.set, idle]
  repeat (go_big_quiet_step (fail))
  first | refine wpQuiet_nil ?_ | refine wpQuiet_idle rfl rfl rfl ?_
  rintro _ ⟨n31, rfl⟩
  go_wp2
  rw [rounds_succ]
  go_wp2
  refine wp_region_tail (C := fun w' => ∃ n, w' = World.drewN _ n) 11 _ rfl rfl rfl (by kernel_rfl) (by kernel_rfl) (by kernel_rfl) (by kernel_rfl) ⟨1, rfl⟩ ?_
  dsimp only [List.set, idle]
  repeat (go_big_quiet_step (fail))
  first | refine wpQuiet_nil ?_ | refine wpQuiet_idle rfl rfl rfl ?_
  rintro _ ⟨n32, rfl⟩
  go_wp2
  rw [rounds_succ]
  go_wp2
  refine wp_region_tail (C := fun w' => ∃ n, w' = World.drewN _ n) 11 _ rfl rfl rfl (by kernel_rfl) (by kernel_rfl) (by kernel_rfl) (by kernel_rfl) ⟨1, rfl⟩ ?_
  dsimp only [List.set, idle]
  repeat (go_big_quiet_step (fail))
  first | refine wpQuiet_nil ?_ | refine wpQuiet_idle rfl rfl rfl ?_
  rintro _ ⟨n33, rfl⟩
  go_wp2
  rw [rounds_succ]
  go_wp2
  refine wp_region_tail (C := fun w' => ∃ n, w' = World.drewN _ n) 11 _ rfl rfl rfl (by kernel_rfl) (by kernel_rfl) (by kernel_rfl) (by kernel_rfl) ⟨1, rfl⟩ ?_
  dsimp only [List.set, idle]
  repeat (go_big_quiet_step (fail))
  first | refine wpQuiet_nil ?_ | refine wpQuiet_idle rfl rfl rfl ?_
  rintro _ ⟨n34, rfl⟩
  go_wp2
  rw [rounds_succ]
  go_wp2
  refine wp_region_tail (C := fun w' => ∃ n, w' = World.drewN _ n) 11 _ rfl rfl rfl (by kernel_rfl) (by kernel_rfl) (by kernel_rfl) (by kernel_rfl) ⟨1, rfl⟩ ?_
  dsimp only [List.set, idle]
  repeat (go_big_quiet_step (fail))
  first | refine wpQuiet_nil ?_ | refine wpQuiet_idle rfl rfl rfl ?_
  rintro _ ⟨n35, rfl⟩
  go_wp2
  rw [rounds_succ]
  go_wp2
  refine wp_region_tail (C := fun w' => ∃ n, w' = World.drewN _ n) 11 _ rfl rfl rfl (by kernel_rfl) (by kernel_rfl) (by kernel_rfl) (by kernel_rfl) ⟨1, rfl⟩ ?_
  dsimp only [List.set, idle]
  repeat (go_big_quiet_step (fail))
  first | refine wpQuiet_nil ?_ | refine wpQuiet_idle rfl rfl rfl ?_
  rintro _ ⟨n36, rfl⟩
  go_wp2
  rw [rounds_succ]
  go_wp2
  refine wp_region_tail (C := fun w' => ∃ n, w' = World.drewN _ n) 11 _ rfl rfl rfl (by kernel_rfl) (by kernel_rfl) (by kernel_rfl) (by kernel_rfl) ⟨1, rfl⟩ ?_
  dsimp only [List.set, idle]
  repeat (go_big_quiet_step (fail))
  first | refine wpQuiet_nil ?_ | refine wpQuiet_idle rfl rfl rfl ?_
  rintro _ ⟨n37, rfl⟩
  go_wp2
  rw [rounds_succ]
  go_wp2
  go_end0
  dsimp only
  have rZ2 : ∀ (o1 o2 : Obj) (k : Nat), (((w1.alloc o1).alloc o2).drewN k).heap[w.heap.size + 1]? = some (.cells #[.int .u8 0, .int .u8 0, .int .u8 0, .int .u8 0, .int .u8 0, .int .u8 0, .int .u8 0, .int .u8 0, .int .u8 0, .int .u8 0, .int .u8 0, .int .u8 0, .int .u8 0, .int .u8 0, .int .u8 0, .int .u8 0, .int .u8 0, .int .u8 0, .int .u8 0, .int .u8 0, .int .u8 0, .int .u8 0, .int .u8 0, .int .u8 0, .int .u8 0, .int .u8 0, .int .u8 0, .int .u8 0, .int .u8 0, .int .u8 0, .int .u8 0, .int .u8 0] 34 (0, 0)) := fun o1 o2 k => by
    rw [World.heap_drewN]; exact (Go.heap_alloc_old _ _ (by simp; omega)).trans ((Go.heap_alloc_old _ _ (by omega)).trans rZ1)
  have hbw2 : ∀ (o1 o2 : Obj) (k : Nat), Below w.heap.size w (((w1.alloc o1).alloc o2).drewN k) := fun o1 o2 k => below_drN ((hbw1.alloc (by omega) _).alloc (by simp; omega) _) k
  go_wp2_with (first | (refine wpList_load_row rfl 34 _ rfl (w1.heap.size + 1) rfl 34 #[.int .u8 (N0 % 256), .int .u8 (N0 / 256 % 256), .int .u8 (N0 / 65536 % 256), .int .u8 (N0 / 16777216 % 256), .int .u8 (N0 / 4294967296 % 256), .int .u8 (N0 / 1099511627776 % 256), .int .u8 (N0 / 281474976710656 % 256), .int .u8 (N0 / 72057594037927936), .int .u8 (N1 % 256), .int .u8 (N1 / 256 % 256), .int .u8 (N1 / 65536 % 256), .int .u8 (N1 / 16777216 % 256), .int .u8 (N1 / 4294967296 % 256), .int .u8 (N1 / 1099511627776 % 256), .int .u8 (N1 / 281474976710656 % 256), .int .u8 (N1 / 72057594037927936), .int .u8 (N2 % 256), .int .u8 (N2 / 256 % 256), .int .u8 (N2 / 65536 % 256), .int .u8 (N2 / 16777216 % 256), .int .u8 (N2 / 4294967296 % 256), .int .u8 (N2 / 1099511627776 % 256), .int .u8 (N2 / 281474976710656 % 256), .int .u8 (N2 / 72057594037927936), .int .u8 (N3 % 256), .int .u8 (N3 / 256 % 256), .int .u8 (N3 / 65536 % 256), .int .u8 (N3 / 16777216 % 256), .int .u8 (N3 / 4294967296 % 256), .int .u8 (N3 / 1099511627776 % 256), .int .u8 (N3 / 281474976710656 % 256), .int .u8 (N3 / 72057594037927936)] (0, 0) _ (by rw [World.heap_drewN, hp2_1]) Tryd.underlying34 rfl (by kernel_rfl) ?_) | (refine wpList_store_row rfl 34 _ _ rfl (w.heap.size + 1) #[.int .u8 (N0 % 256), .int .u8 (N0 / 256 % 256), .int .u8 (N0 / 65536 % 256), .int .u8 (N0 / 16777216 % 256), .int .u8 (N0 / 4294967296 % 256), .int .u8 (N0 / 1099511627776 % 256), .int .u8 (N0 / 281474976710656 % 256), .int .u8 (N0 / 72057594037927936), .int .u8 (N1 % 256), .int .u8 (N1 / 256 % 256), .int .u8 (N1 / 65536 % 256), .int .u8 (N1 / 16777216 % 256), .int .u8 (N1 / 4294967296 % 256), .int .u8 (N1 / 1099511627776 % 256), .int .u8 (N1 / 281474976710656 % 256), .int .u8 (N1 / 72057594037927936), .int .u8 (N2 % 256), .int .u8 (N2 / 256 % 256), .int .u8 (N2 / 65536 % 256), .int .u8 (N2 / 16777216 % 256), .int .u8 (N2 / 4294967296 % 256), .int .u8 (N2 / 1099511627776 % 256), .int .u8 (N2 / 281474976710656 % 256), .int .u8 (N2 / 72057594037927936), .int .u8 (N3 % 256), .int .u8 (N3 / 256 % 256), .int .u8 (N3 / 65536 % 256), .int .u8 (N3 / 16777216 % 256), .int .u8 (N3 / 4294967296 % 256), .int .u8 (N3 / 1099511627776 % 256), .int .u8 (N3 / 281474976710656 % 256), .int .u8 (N3 / 72057594037927936)] rfl rfl 34 _ (rZ2 _ _ _) (by kernel_rfl) rfl (by kernel_rfl) ?_) | fail)
  have hVN : V = N0 + 18446744073709551616 * (N1 + 18446744073709551616 * (N2 + 18446744073709551616 * N3)) := by
    rw [HN0.out, HN1.out, HN2.out, HN3.out, words_v5]; exact HV.out.symm
  obtain ⟨k0, k1, k2, k3, k4, k5, k6, k7, k8, k9, k10, k11, k12, k13, k14, k15, k16, k17, k18, k19, k20, k21, k22, k23, k24, k25, k26, k27, k28, k29, k30, k31⟩ := words_bytes N0 N1 N2 N3 lN0 uN0 lN1 uN1 lN2 uN2 lN3 uN3
  refine bodyPost_ret (v := .agg #[.int .u8 (N0 % 256), .int .u8 (N0 / 256 % 256), .int .u8 (N0 / 65536 % 256), .int .u8 (N0 / 16777216 % 256), .int .u8 (N0 / 4294967296 % 256), .int .u8 (N0 / 1099511627776 % 256), .int .u8 (N0 / 281474976710656 % 256), .int .u8 (N0 / 72057594037927936), .int .u8 (N1 % 256), .int .u8 (N1 / 256 % 256), .int .u8 (N1 / 65536 % 256), .int .u8 (N1 / 16777216 % 256), .int .u8 (N1 / 4294967296 % 256), .int .u8 (N1 / 1099511627776 % 256), .int .u8 (N1 / 281474976710656 % 256), .int .u8 (N1 / 72057594037927936), .int .u8 (N2 % 256), .int .u8 (N2 / 256 % 256), .int .u8 (N2 / 65536 % 256), .int .u8 (N2 / 16777216 % 256), .int .u8 (N2 / 4294967296 % 256), .int .u8 (N2 / 1099511627776 % 256), .int .u8 (N2 / 281474976710656 % 256), .int .u8 (N2 / 72057594037927936), .int .u8 (N3 % 256), .int .u8 (N3 / 256 % 256), .int .u8 (N3 / 65536 % 256), .int .u8 (N3 / 16777216 % 256), .int .u8 (N3 / 4294967296 % 256), .int .u8 (N3 / 1099511627776 % 256), .int .u8 (N3 / 281474976710656 % 256), .int .u8 (N3 / 72057594037927936)]) (results_cell_row Tryd.results10 _ _ (w.heap.size + 1) _ _ _ _ rfl (setRow_heap _ _ _ _ _ _ (rZ2 _ _ _)) Tryd.underlying34 rfl (by kernel_rfl)) rfl ⟨?_, below_setRow (hbw2 _ _ _) (by omega) _⟩
  rw [hVN, k0, k1, k2, k3, k4, k5, k6, k7, k8, k9, k10, k11, k12, k13, k14, k15, k16, k17, k18, k19, k20, k21, k22, k23, k24, k25, k26, k27, k28, k29, k30, k31]

end Go.Proofs.YtnohfbpmckhbbaaDoor


namespace Go.Proofs.YtnohfbpmckhbbaaDoor
set_option maxRecDepth 100000
open Go.RowKit Go.Sort
attribute [local go_sem] setCell_drewN alloc_drewN


set_option maxHeartbeats 1000000 in
theorem mul64_nat (x y : Nat) (hx : x < 18446744073709551616) (hy : y < 18446744073709551616) (w : World) :
    Calls Tryd.prog 60 #[.int .u64 x, .int .u64 y] w fun e w' => e = .returned (.tuple #[.int .u64 ((x * y / 18446744073709551616 : Nat) : Int), .int .u64 ((x * y % 18446744073709551616 : Nat) : Int)]) ∧ w' = w := by
  obtain ⟨bd, bt, bw, hhi⟩ := Lib.mul64_hi x y hx hy
  have ba := Lib.half_mul_le (a := x / 4294967296) (b := y / 4294967296) (by omega) (by omega)
  have bb := Lib.half_mul_le (a := x / 4294967296) (b := y % 4294967296) (by omega) (by omega)
  have bc := Lib.half_mul_le (a := x % 4294967296) (b := y / 4294967296) (by omega) (by omega)
  have ba' : x / 4294967296 * (y / 4294967296) < 18446744073709551616 := by omega
  have bb' : x / 4294967296 * (y % 4294967296) < 18446744073709551616 := by omega
  have bc' : x % 4294967296 * (y / 4294967296) < 18446744073709551616 := by omega
  have bh1 : x / 4294967296 * (y / 4294967296) + (x / 4294967296 * (y % 4294967296) + x % 4294967296 * (y % 4294967296) / 4294967296) / 4294967296 < 18446744073709551616 := by omega
  have bh : x / 4294967296 * (y / 4294967296) + (x / 4294967296 * (y % 4294967296) + x % 4294967296 * (y % 4294967296) / 4294967296) / 4294967296 + ((x / 4294967296 * (y % 4294967296) + x % 4294967296 * (y % 4294967296) / 4294967296) % 4294967296 + x % 4294967296 * (y / 4294967296)) / 4294967296 < 18446744073709551616 := by omega
  go_enter Tryd.func60, Tryd.ntmps60
  go_wp2
  simp only [Mul64.maskN x hx, Mul64.maskN y hy, Mul64.divN, Mul64.mulN, Mul64.addN, Mul64.wrapN _ bd, Mul64.wrapN _ bb', Mul64.wrapN _ bt, Mul64.maskN _ bt, Mul64.wrapN _ bc', Mul64.wrapN _ bw, Mul64.wrapN _ ba', Mul64.wrapN _ bh1, Mul64.wrapN _ bh, Mul64.wrapM (x * y)]
  rw [hhi]
  go_ret2
  exact ⟨rfl, rfl⟩
theorem mul64_any (x y : Int) (hx0 : 0 ≤ x) (hx : x < 18446744073709551616) (hy0 : 0 ≤ y) (hy : y < 18446744073709551616) (w : World) :
    Calls Tryd.prog 60 #[.int .u64 x, .int .u64 y] w fun e w' => e = .returned (.tuple #[.int .u64 (x * y / 18446744073709551616), .int .u64 (x * y % 18446744073709551616)]) ∧ w' = w := by
  obtain ⟨a, rfl⟩ := Int.eq_ofNat_of_zero_le hx0
  obtain ⟨b, rfl⟩ := Int.eq_ofNat_of_zero_le hy0
  have h := mul64_nat a b (by omega) (by omega) w
  simp only [Int.natCast_ediv, Int.natCast_emod, Int.natCast_mul] at h
  exact h

set_option maxHeartbeats 1000000 in
theorem product_any (x y : Int) (hx0 : 0 ≤ x) (hx : x < 18446744073709551616) (hy0 : 0 ≤ y) (hy : y < 18446744073709551616) (w : World) :
    Calls Tryd.prog 45 #[.int .u64 x, .int .u64 y] w fun e w' => e = .returned (.agg #[.int .u64 ((x * y) / 18446744073709551616), .int .u64 ((x * y) % 18446744073709551616)]) ∧ Below w.heap.size w w' := by
  have c := fun W => mul64_any x y hx0 hx hy0 hy W
  have C := hide c; clear c
  generalize x * y = m at *
  go_enter Tryd.func45, Tryd.ntmps45
  go_wp2_with (go_at_call 60; refine (C.out _).mono ?_; rintro e W ⟨rfl, rfl⟩)
  exact bodyPost_ret (v := .agg #[.int .u64 (m / 18446744073709551616), .int .u64 (m % 18446744073709551616)]) (results_cell_row Tryd.results45 _ _ w.heap.size _ #[.int .u64 (m / 18446744073709551616), .int .u64 (m % 18446744073709551616)] _ _ rfl (hp1_0 w _) Tryd.underlying75 rfl (by kernel_rfl)) rfl ⟨rfl, (Below.refl _ _).alloc (Nat.le_refl _) _⟩

theorem add64_call (x y c : Int) (hx : 0 ≤ x) (hy : 0 ≤ y) (hc0 : 0 ≤ c) (hc : c ≤ 1) (W : World) : (callFunc 61 #[.int .u64 x, .int .u64 y, .int .u64 c]).run Tryd.prog W = .ok (.value (.tuple #[.int .u64 ((x + y + c) % 18446744073709551616), .int .u64 ((x + y + c) / 18446744073709551616)])) W := by
  rw [run_callFunc_extern (e := add64Entry) Tryd.func61 (by kernel_rfl) (by kernel_rfl) (by kernel_rfl) (by kernel_rfl), run_add64 x y c hx hy hc0 hc]
  rfl

set_option maxHeartbeats 1000000 in
theorem plus_any (x a b : Int) (hx0 : 0 ≤ x) (ha0 : 0 ≤ a) (ha : a < 18446744073709551616) (hb0 : 0 ≤ b) (hb : b < 18446744073709551616) (hs : x + a * b < 340282366920938463463374607431768211456) (w : World) :
    Calls Tryd.prog 46 #[.agg #[.int .u64 (x / 18446744073709551616), .int .u64 (x % 18446744073709551616)], .int .u64 a, .int .u64 b] w fun e w' => e = .returned (.agg #[.int .u64 ((x + a * b) / 18446744073709551616), .int .u64 ((x + a * b) % 18446744073709551616)]) ∧ Below w.heap.size w w' := by
  have c := fun W => mul64_any a b ha0 ha hb0 hb W
  have C := hide c; clear c
  have hm0 : 0 ≤ a * b := Int.mul_nonneg ha0 hb0
  generalize a * b = m at *
  have k1 := (wide_high x m hx0 hm0 hs).1
  have a1 := fun W => add64_call (x % 18446744073709551616) (m % 18446744073709551616) 0 (by omega) (by omega) (by omega) (by omega) W
  have a2 := fun W => add64_call (x / 18446744073709551616) (m / 18446744073709551616) ((x % 18446744073709551616 + m % 18446744073709551616) / 18446744073709551616) (by omega) (by omega) (by omega) (by omega) W
  simp only [Int.add_zero] at a1
  have K1 := hide k1; clear k1
  go_enter Tryd.func46, Tryd.ntmps46
  go_wp2_with (go_at_call 60; refine (C.out _).mono ?_; rintro e W ⟨rfl, rfl⟩)
  rw [K1.out]
  exact bodyPost_ret (v := .agg #[.int .u64 ((x + m) / 18446744073709551616), .int .u64 ((x + m) % 18446744073709551616)]) (results_cell_row Tryd.results46 _ _ (w.heap.size + 1) _ #[.int .u64 ((x + m) / 18446744073709551616), .int .u64 ((x + m) % 18446744073709551616)] _ _ rfl (hp2_1 w _ _) Tryd.underlying75 rfl (by kernel_rfl)) rfl ⟨rfl, ((Below.refl _ _).alloc (Nat.le_refl _) _).alloc (by simp) _⟩

set_option maxHeartbeats 1000000 in
theorem rest_any (x : Int) (w : World) :
    Calls Tryd.prog 58 #[.agg #[.int .u64 (x / 18446744073709551616), .int .u64 (x % 18446744073709551616)]] w fun e w' => e = .returned (.int .u64 (x % 2251799813685248)) ∧ Below w.heap.size w w' := by
  go_enter Tryd.func58, Tryd.ntmps58
  go_wp2
  rw [and51 _ (by omega) (by omega)]
  have e1 : x % 18446744073709551616 % 2251799813685248 = x % 2251799813685248 := by omega
  rw [e1]
  go_ret
  exact ⟨rfl, (Below.refl _ _).alloc (Nat.le_refl _) _⟩

set_option maxHeartbeats 1000000 in
theorem over_any (x : Int) (h0 : 0 ≤ x) (h1 : x < 41538374868278621028243970633760768) (w : World) :
    Calls Tryd.prog 59 #[.agg #[.int .u64 (x / 18446744073709551616), .int .u64 (x % 18446744073709551616)]] w fun e w' => e = .returned (.int .u64 (x / 2251799813685248)) ∧ Below w.heap.size w w' := by
  have h2 : x / 18446744073709551616 < 2251799813685248 := by omega
  have h3 : 0 ≤ x / 18446744073709551616 := by omega
  go_enter Tryd.func59, Tryd.ntmps59
  go_wp2
  rw [over_num x h0 h1]
  go_ret
  exact ⟨rfl, (Below.refl _ _).alloc (Nat.le_refl _) _⟩


set_option maxHeartbeats 4000000 in
theorem joined_any (r0 r1 r2 r3 r4 : Int) (l0 : 0 ≤ r0) (u0 : r0 < 2596148429267413814265248164610048) (l1 : 0 ≤ r1) (u1 : r1 < 2596148429267413814265248164610048) (l2 : 0 ≤ r2) (u2 : r2 < 2596148429267413814265248164610048) (l3 : 0 ≤ r3) (u3 : r3 < 2596148429267413814265248164610048) (l4 : 0 ≤ r4) (u4 : r4 < 162259276829213363391578010288128) (w : World) :
    Calls Tryd.prog 44 #[.agg #[.int .u64 (r0 / 18446744073709551616), .int .u64 (r0 % 18446744073709551616)], .agg #[.int .u64 (r1 / 18446744073709551616), .int .u64 (r1 % 18446744073709551616)], .agg #[.int .u64 (r2 / 18446744073709551616), .int .u64 (r2 % 18446744073709551616)], .agg #[.int .u64 (r3 / 18446744073709551616), .int .u64 (r3 % 18446744073709551616)], .agg #[.int .u64 (r4 / 18446744073709551616), .int .u64 (r4 % 18446744073709551616)]] w fun e w' => e = .returned (.agg #[.int .u64 (jn 0 r0 r1 r2 r3 r4), .int .u64 (jn 1 r0 r1 r2 r3 r4), .int .u64 (jn 2 r0 r1 r2 r3 r4), .int .u64 (jn 3 r0 r1 r2 r3 r4), .int .u64 (jn 4 r0 r1 r2 r3 r4)]) ∧ Below w.heap.size w w' := by
  go_enter Tryd.func44, Tryd.ntmps44
  have HB0 := fun (p : Nat) (cs : Array Value) (hp : ((((((w.alloc (.cells #[.int .u64 (r0 / 18446744073709551616), .int .u64 (r0 % 18446744073709551616)] 75)).alloc (.cells #[.int .u64 (r1 / 18446744073709551616), .int .u64 (r1 % 18446744073709551616)] 75)).alloc (.cells #[.int .u64 (r2 / 18446744073709551616), .int .u64 (r2 % 18446744073709551616)] 75)).alloc (.cells #[.int .u64 (r3 / 18446744073709551616), .int .u64 (r3 % 18446744073709551616)] 75)).alloc (.cells #[.int .u64 (r4 / 18446744073709551616), .int .u64 (r4 % 18446744073709551616)] 75)).alloc (.cells #[.int .u64 0, .int .u64 0, .int .u64 0, .int .u64 0, .int .u64 0] 26)).heap[p]? = some (.cells cs 75 (0, 0))) (hlt : p < ((((((w.alloc (.cells #[.int .u64 (r0 / 18446744073709551616), .int .u64 (r0 % 18446744073709551616)] 75)).alloc (.cells #[.int .u64 (r1 / 18446744073709551616), .int .u64 (r1 % 18446744073709551616)] 75)).alloc (.cells #[.int .u64 (r2 / 18446744073709551616), .int .u64 (r2 % 18446744073709551616)] 75)).alloc (.cells #[.int .u64 (r3 / 18446744073709551616), .int .u64 (r3 % 18446744073709551616)] 75)).alloc (.cells #[.int .u64 (r4 / 18446744073709551616), .int .u64 (r4 % 18446744073709551616)] 75)).alloc (.cells #[.int .u64 0, .int .u64 0, .int .u64 0, .int .u64 0, .int .u64 0] 26)).heap.size) => (fun W (hW : ∃ q : Regrown, W = grow (redrawn ((((((w.alloc (.cells #[.int .u64 (r0 / 18446744073709551616), .int .u64 (r0 % 18446744073709551616)] 75)).alloc (.cells #[.int .u64 (r1 / 18446744073709551616), .int .u64 (r1 % 18446744073709551616)] 75)).alloc (.cells #[.int .u64 (r2 / 18446744073709551616), .int .u64 (r2 % 18446744073709551616)] 75)).alloc (.cells #[.int .u64 (r3 / 18446744073709551616), .int .u64 (r3 % 18446744073709551616)] 75)).alloc (.cells #[.int .u64 (r4 / 18446744073709551616), .int .u64 (r4 % 18446744073709551616)] 75)).alloc (.cells #[.int .u64 0, .int .u64 0, .int .u64 0, .int .u64 0, .int .u64 0] 26)) q.d) q.os) => (by obtain ⟨q, rfl⟩ := hW; exact ((below_regrown _ q.d q.os).block _ (by exact hlt)).trans (hp) : W.heap[p]? = some (.cells cs 75 (0, 0))))
  go_wp2
  refine wp_region_quiet_below (by kernel_rfl) (by kernel_rfl) ?_
  refine wpQuiet_load_row rfl 75 _ rfl (w.heap.size) rfl 75 #[.int .u64 (r0 / 18446744073709551616), .int .u64 (r0 % 18446744073709551616)] (0, 0) _ (HB0 _ _ (hp6_0 w _ _ _ _ _ _) (by simp; try omega)) Tryd.underlying75 rfl (by kernel_rfl) ?_
  simp only [Act.put, List.setIfInBounds_toArray, List.set_cons_succ, List.set_cons_zero]
  go_big_quiet_step (exact Calls.regrown_of (rest_any r0 _))
  refine wpQuiet_load_row rfl 75 _ rfl (w.heap.size + 1 + 1 + 1 + 1) rfl 75 #[.int .u64 (r4 / 18446744073709551616), .int .u64 (r4 % 18446744073709551616)] (0, 0) _ (HB0 _ _ (hp6_4 w _ _ _ _ _ _) (by simp; try omega)) Tryd.underlying75 rfl (by kernel_rfl) ?_
  simp only [Act.put, List.setIfInBounds_toArray, List.set_cons_succ, List.set_cons_zero]
  go_big_quiet_step (exact Calls.regrown_of (over_any r4 l4 (by omega) _))
  repeat (go_big_quiet_step (fail))
  refine wpQuiet_nil ?_
  rintro _ ⟨q, rfl⟩
  have hB0 : Below ((((((w.alloc (.cells #[.int .u64 (r0 / 18446744073709551616), .int .u64 (r0 % 18446744073709551616)] 75)).alloc (.cells #[.int .u64 (r1 / 18446744073709551616), .int .u64 (r1 % 18446744073709551616)] 75)).alloc (.cells #[.int .u64 (r2 / 18446744073709551616), .int .u64 (r2 % 18446744073709551616)] 75)).alloc (.cells #[.int .u64 (r3 / 18446744073709551616), .int .u64 (r3 % 18446744073709551616)] 75)).alloc (.cells #[.int .u64 (r4 / 18446744073709551616), .int .u64 (r4 % 18446744073709551616)] 75)).alloc (.cells #[.int .u64 0, .int .u64 0, .int .u64 0, .int .u64 0, .int .u64 0] 26)).heap.size ((((((w.alloc (.cells #[.int .u64 (r0 / 18446744073709551616), .int .u64 (r0 % 18446744073709551616)] 75)).alloc (.cells #[.int .u64 (r1 / 18446744073709551616), .int .u64 (r1 % 18446744073709551616)] 75)).alloc (.cells #[.int .u64 (r2 / 18446744073709551616), .int .u64 (r2 % 18446744073709551616)] 75)).alloc (.cells #[.int .u64 (r3 / 18446744073709551616), .int .u64 (r3 % 18446744073709551616)] 75)).alloc (.cells #[.int .u64 (r4 / 18446744073709551616), .int .u64 (r4 % 18446744073709551616)] 75)).alloc (.cells #[.int .u64 0, .int .u64 0, .int .u64 0, .int .u64 0, .int .u64 0] 26)) (grow (redrawn ((((((w.alloc (.cells #[.int .u64 (r0 / 18446744073709551616), .int .u64 (r0 % 18446744073709551616)] 75)).alloc (.cells #[.int .u64 (r1 / 18446744073709551616), .int .u64 (r1 % 18446744073709551616)] 75)).alloc (.cells #[.int .u64 (r2 / 18446744073709551616), .int .u64 (r2 % 18446744073709551616)] 75)).alloc (.cells #[.int .u64 (r3 / 18446744073709551616), .int .u64 (r3 % 18446744073709551616)] 75)).alloc (.cells #[.int .u64 (r4 / 18446744073709551616), .int .u64 (r4 % 18446744073709551616)] 75)).alloc (.cells #[.int .u64 0, .int .u64 0, .int .u64 0, .int .u64 0, .int .u64 0] 26)) q.d) q.os) := below_regrown _ q.d q.os
  clear HB0
  generalize grow (redrawn ((((((w.alloc (.cells #[.int .u64 (r0 / 18446744073709551616), .int .u64 (r0 % 18446744073709551616)] 75)).alloc (.cells #[.int .u64 (r1 / 18446744073709551616), .int .u64 (r1 % 18446744073709551616)] 75)).alloc (.cells #[.int .u64 (r2 / 18446744073709551616), .int .u64 (r2 % 18446744073709551616)] 75)).alloc (.cells #[.int .u64 (r3 / 18446744073709551616), .int .u64 (r3 % 18446744073709551616)] 75)).alloc (.cells #[.int .u64 (r4 / 18446744073709551616), .int .u64 (r4 % 18446744073709551616)] 75)).alloc (.cells #[.int .u64 0, .int .u64 0, .int .u64 0, .int .u64 0, .int .u64 0] 26)) q.d) q.os = W0 at *
  have HB1 := fun (p : Nat) (cs : Array Value) (hp : ((((((w.alloc (.cells #[.int .u64 (r0 / 18446744073709551616), .int .u64 (r0 % 18446744073709551616)] 75)).alloc (.cells #[.int .u64 (r1 / 18446744073709551616), .int .u64 (r1 % 18446744073709551616)] 75)).alloc (.cells #[.int .u64 (r2 / 18446744073709551616), .int .u64 (r2 % 18446744073709551616)] 75)).alloc (.cells #[.int .u64 (r3 / 18446744073709551616), .int .u64 (r3 % 18446744073709551616)] 75)).alloc (.cells #[.int .u64 (r4 / 18446744073709551616), .int .u64 (r4 % 18446744073709551616)] 75)).alloc (.cells #[.int .u64 0, .int .u64 0, .int .u64 0, .int .u64 0, .int .u64 0] 26)).heap[p]? = some (.cells cs 75 (0, 0))) (hlt : p < ((((((w.alloc (.cells #[.int .u64 (r0 / 18446744073709551616), .int .u64 (r0 % 18446744073709551616)] 75)).alloc (.cells #[.int .u64 (r1 / 18446744073709551616), .int .u64 (r1 % 18446744073709551616)] 75)).alloc (.cells #[.int .u64 (r2 / 18446744073709551616), .int .u64 (r2 % 18446744073709551616)] 75)).alloc (.cells #[.int .u64 (r3 / 18446744073709551616), .int .u64 (r3 % 18446744073709551616)] 75)).alloc (.cells #[.int .u64 (r4 / 18446744073709551616), .int .u64 (r4 % 18446744073709551616)] 75)).alloc (.cells #[.int .u64 0, .int .u64 0, .int .u64 0, .int .u64 0, .int .u64 0] 26)).heap.size) => (fun W (hW : ∃ q : Regrown, W = grow (redrawn W0 q.d) q.os) => (by obtain ⟨q, rfl⟩ := hW; exact ((below_regrown _ q.d q.os).block _ (by have := hB0.size; omega)).trans ((hB0.block _ hlt).trans hp) : W.heap[p]? = some (.cells cs 75 (0, 0))))
  go_wp2
  refine wp_region_quiet_below (by kernel_rfl) (by kernel_rfl) ?_
  refine wpQuiet_load_row rfl 75 _ rfl (w.heap.size + 1) rfl 75 #[.int .u64 (r1 / 18446744073709551616), .int .u64 (r1 % 18446744073709551616)] (0, 0) _ (HB1 _ _ (hp6_1 w _ _ _ _ _ _) (by simp; try omega)) Tryd.underlying75 rfl (by kernel_rfl) ?_
  simp only [Act.put, List.setIfInBounds_toArray, List.set_cons_succ, List.set_cons_zero]
  go_big_quiet_step (exact Calls.regrown_of (rest_any r1 _))
  refine wpQuiet_load_row rfl 75 _ rfl (w.heap.size) rfl 75 #[.int .u64 (r0 / 18446744073709551616), .int .u64 (r0 % 18446744073709551616)] (0, 0) _ (HB1 _ _ (hp6_0 w _ _ _ _ _ _) (by simp; try omega)) Tryd.underlying75 rfl (by kernel_rfl) ?_
  simp only [Act.put, List.setIfInBounds_toArray, List.set_cons_succ, List.set_cons_zero]
  go_big_quiet_step (exact Calls.regrown_of (over_any r0 l0 (by omega) _))
  repeat (go_big_quiet_step (fail))
  refine wpQuiet_nil ?_
  rintro _ ⟨q, rfl⟩
  have hB1 : Below ((((((w.alloc (.cells #[.int .u64 (r0 / 18446744073709551616), .int .u64 (r0 % 18446744073709551616)] 75)).alloc (.cells #[.int .u64 (r1 / 18446744073709551616), .int .u64 (r1 % 18446744073709551616)] 75)).alloc (.cells #[.int .u64 (r2 / 18446744073709551616), .int .u64 (r2 % 18446744073709551616)] 75)).alloc (.cells #[.int .u64 (r3 / 18446744073709551616), .int .u64 (r3 % 18446744073709551616)] 75)).alloc (.cells #[.int .u64 (r4 / 18446744073709551616), .int .u64 (r4 % 18446744073709551616)] 75)).alloc (.cells #[.int .u64 0, .int .u64 0, .int .u64 0, .int .u64 0, .int .u64 0] 26)).heap.size ((((((w.alloc (.cells #[.int .u64 (r0 / 18446744073709551616), .int .u64 (r0 % 18446744073709551616)] 75)).alloc (.cells #[.int .u64 (r1 / 18446744073709551616), .int .u64 (r1 % 18446744073709551616)] 75)).alloc (.cells #[.int .u64 (r2 / 18446744073709551616), .int .u64 (r2 % 18446744073709551616)] 75)).alloc (.cells #[.int .u64 (r3 / 18446744073709551616), .int .u64 (r3 % 18446744073709551616)] 75)).alloc (.cells #[.int .u64 (r4 / 18446744073709551616), .int .u64 (r4 % 18446744073709551616)] 75)).alloc (.cells #[.int .u64 0, .int .u64 0, .int .u64 0, .int .u64 0, .int .u64 0] 26)) (grow (redrawn W0 q.d) q.os) := hB0.trans ((below_regrown _ q.d q.os).mono hB0.size)
  clear HB1
  generalize grow (redrawn W0 q.d) q.os = W1 at *
  have HB2 := fun (p : Nat) (cs : Array Value) (hp : ((((((w.alloc (.cells #[.int .u64 (r0 / 18446744073709551616), .int .u64 (r0 % 18446744073709551616)] 75)).alloc (.cells #[.int .u64 (r1 / 18446744073709551616), .int .u64 (r1 % 18446744073709551616)] 75)).alloc (.cells #[.int .u64 (r2 / 18446744073709551616), .int .u64 (r2 % 18446744073709551616)] 75)).alloc (.cells #[.int .u64 (r3 / 18446744073709551616), .int .u64 (r3 % 18446744073709551616)] 75)).alloc (.cells #[.int .u64 (r4 / 18446744073709551616), .int .u64 (r4 % 18446744073709551616)] 75)).alloc (.cells #[.int .u64 0, .int .u64 0, .int .u64 0, .int .u64 0, .int .u64 0] 26)).heap[p]? = some (.cells cs 75 (0, 0))) (hlt : p < ((((((w.alloc (.cells #[.int .u64 (r0 / 18446744073709551616), .int .u64 (r0 % 18446744073709551616)] 75)).alloc (.cells #[.int .u64 (r1 / 18446744073709551616), .int .u64 (r1 % 18446744073709551616)] 75)).alloc (.cells #[.int .u64 (r2 / 18446744073709551616), .int .u64 (r2 % 18446744073709551616)] 75)).alloc (.cells #[.int .u64 (r3 / 18446744073709551616), .int .u64 (r3 % 18446744073709551616)] 75)).alloc (.cells #[.int .u64 (r4 / 18446744073709551616), .int .u64 (r4 % 18446744073709551616)] 75)).alloc (.cells #[.int .u64 0, .int .u64 0, .int .u64 0, .int .u64 0, .int .u64 0] 26)).heap.size) => (fun W (hW : ∃ q : Regrown, W = grow (redrawn W1 q.d) q.os) => (by obtain ⟨q, rfl⟩ := hW; exact ((below_regrown _ q.d q.os).block _ (by have := hB1.size; omega)).trans ((hB1.block _ hlt).trans hp) : W.heap[p]? = some (.cells cs 75 (0, 0))))
  go_wp2
  refine wp_region_quiet_below (by kernel_rfl) (by kernel_rfl) ?_
  refine wpQuiet_load_row rfl 75 _ rfl (w.heap.size + 1 + 1) rfl 75 #[.int .u64 (r2 / 18446744073709551616), .int .u64 (r2 % 18446744073709551616)] (0, 0) _ (HB2 _ _ (hp6_2 w _ _ _ _ _ _) (by simp; try omega)) Tryd.underlying75 rfl (by kernel_rfl) ?_
  simp only [Act.put, List.setIfInBounds_toArray, List.set_cons_succ, List.set_cons_zero]
  go_big_quiet_step (exact Calls.regrown_of (rest_any r2 _))
  refine wpQuiet_load_row rfl 75 _ rfl (w.heap.size + 1) rfl 75 #[.int .u64 (r1 / 18446744073709551616), .int .u64 (r1 % 18446744073709551616)] (0, 0) _ (HB2 _ _ (hp6_1 w _ _ _ _ _ _) (by simp; try omega)) Tryd.underlying75 rfl (by kernel_rfl) ?_
  simp only [Act.put, List.setIfInBounds_toArray, List.set_cons_succ, List.set_cons_zero]
  go_big_quiet_step (exact Calls.regrown_of (over_any r1 l1 (by omega) _))
  repeat (go_big_quiet_step (fail))
  refine wpQuiet_nil ?_
  rintro _ ⟨q, rfl⟩
  have hB2 : Below ((((((w.alloc (.cells #[.int .u64 (r0 / 18446744073709551616), .int .u64 (r0 % 18446744073709551616)] 75)).alloc (.cells #[.int .u64 (r1 / 18446744073709551616), .int .u64 (r1 % 18446744073709551616)] 75)).alloc (.cells #[.int .u64 (r2 / 18446744073709551616), .int .u64 (r2 % 18446744073709551616)] 75)).alloc (.cells #[.int .u64 (r3 / 18446744073709551616), .int .u64 (r3 % 18446744073709551616)] 75)).alloc (.cells #[.int .u64 (r4 / 18446744073709551616), .int .u64 (r4 % 18446744073709551616)] 75)).alloc (.cells #[.int .u64 0, .int .u64 0, .int .u64 0, .int .u64 0, .int .u64 0] 26)).heap.size ((((((w.alloc (.cells #[.int .u64 (r0 / 18446744073709551616), .int .u64 (r0 % 18446744073709551616)] 75)).alloc (.cells #[.int .u64 (r1 / 18446744073709551616), .int .u64 (r1 % 18446744073709551616)] 75)).alloc (.cells #[.int .u64 (r2 / 18446744073709551616), .int .u64 (r2 % 18446744073709551616)] 75)).alloc (.cells #[.int .u64 (r3 / 18446744073709551616), .int .u64 (r3 % 18446744073709551616)] 75)).alloc (.cells #[.int .u64 (r4 / 18446744073709551616), .int .u64 (r4 % 18446744073709551616)] 75)).alloc (.cells #[.int .u64 0, .int .u64 0, .int .u64 0, .int .u64 0, .int .u64 0] 26)) (grow (redrawn W1 q.d) q.os) := hB1.trans ((below_regrown _ q.d q.os).mono hB1.size)
  clear HB2
  generalize grow (redrawn W1 q.d) q.os = W2 at *
  have HB3 := fun (p : Nat) (cs : Array Value) (hp : ((((((w.alloc (.cells #[.int .u64 (r0 / 18446744073709551616), .int .u64 (r0 % 18446744073709551616)] 75)).alloc (.cells #[.int .u64 (r1 / 18446744073709551616), .int .u64 (r1 % 18446744073709551616)] 75)).alloc (.cells #[.int .u64 (r2 / 18446744073709551616), .int .u64 (r2 % 18446744073709551616)] 75)).alloc (.cells #[.int .u64 (r3 / 18446744073709551616), .int .u64 (r3 % 18446744073709551616)] 75)).alloc (.cells #[.int .u64 (r4 / 18446744073709551616), .int .u64 (r4 % 18446744073709551616)] 75)).alloc (.cells #[.int .u64 0, .int .u64 0, .int .u64 0, .int .u64 0, .int .u64 0] 26)).heap[p]? = some (.cells cs 75 (0, 0))) (hlt : p < ((((((w.alloc (.cells #[.int .u64 (r0 / 18446744073709551616), .int .u64 (r0 % 18446744073709551616)] 75)).alloc (.cells #[.int .u64 (r1 / 18446744073709551616), .int .u64 (r1 % 18446744073709551616)] 75)).alloc (.cells #[.int .u64 (r2 / 18446744073709551616), .int .u64 (r2 % 18446744073709551616)] 75)).alloc (.cells #[.int .u64 (r3 / 18446744073709551616), .int .u64 (r3 % 18446744073709551616)] 75)).alloc (.cells #[.int .u64 (r4 / 18446744073709551616), .int .u64 (r4 % 18446744073709551616)] 75)).alloc (.cells #[.int .u64 0, .int .u64 0, .int .u64 0, .int .u64 0, .int .u64 0] 26)).heap.size) => (fun W (hW : ∃ q : Regrown, W = grow (redrawn W2 q.d) q.os) => (by obtain ⟨q, rfl⟩ := hW; exact ((below_regrown _ q.d q.os).block _ (by have := hB2.size; omega)).trans ((hB2.block _ hlt).trans hp) : W.heap[p]? = some (.cells cs 75 (0, 0))))
  go_wp2
  refine wp_region_quiet_below (by kernel_rfl) (by kernel_rfl) ?_
  refine wpQuiet_load_row rfl 75 _ rfl (w.heap.size + 1 + 1 + 1) rfl 75 #[.int .u64 (r3 / 18446744073709551616), .int .u64 (r3 % 18446744073709551616)] (0, 0) _ (HB3 _ _ (hp6_3 w _ _ _ _ _ _) (by simp; try omega)) Tryd.underlying75 rfl (by kernel_rfl) ?_
  simp only [Act.put, List.setIfInBounds_toArray, List.set_cons_succ, List.set_cons_zero]
  go_big_quiet_step (exact Calls.regrown_of (rest_any r3 _))
  refine wpQuiet_load_row rfl 75 _ rfl (w.heap.size + 1 + 1) rfl 75 #[.int .u64 (r2 / 18446744073709551616), .int .u64 (r2 % 18446744073709551616)] (0, 0) _ (HB3 _ _ (hp6_2 w _ _ _ _ _ _) (by simp; try omega)) Tryd.underlying75 rfl (by kernel_rfl) ?_
  simp only [Act.put, List.setIfInBounds_toArray, List.set_cons_succ, List.set_cons_zero]
  go_big_quiet_step (exact Calls.regrown_of (over_any r2 l2 (by omega) _))
  repeat (go_big_quiet_step (fail))
  refine wpQuiet_nil ?_
  rintro _ ⟨q, rfl⟩
  have hB3 : Below ((((((w.alloc (.cells #[.int .u64 (r0 / 18446744073709551616), .int .u64 (r0 % 18446744073709551616)] 75)).alloc (.cells #[.int .u64 (r1 / 18446744073709551616), .int .u64 (r1 % 18446744073709551616)] 75)).alloc (.cells #[.int .u64 (r2 / 18446744073709551616), .int .u64 (r2 % 18446744073709551616)] 75)).alloc (.cells #[.int .u64 (r3 / 18446744073709551616), .int .u64 (r3 % 18446744073709551616)] 75)).alloc (.cells #[.int .u64 (r4 / 18446744073709551616), .int .u64 (r4 % 18446744073709551616)] 75)).alloc (.cells #[.int .u64 0, .int .u64 0, .int .u64 0, .int .u64 0, .int .u64 0] 26)).heap.size ((((((w.alloc (.cells #[.int .u64 (r0 / 18446744073709551616), .int .u64 (r0 % 18446744073709551616)] 75)).alloc (.cells #[.int .u64 (r1 / 18446744073709551616), .int .u64 (r1 % 18446744073709551616)] 75)).alloc (.cells #[.int .u64 (r2 / 18446744073709551616), .int .u64 (r2 % 18446744073709551616)] 75)).alloc (.cells #[.int .u64 (r3 / 18446744073709551616), .int .u64 (r3 % 18446744073709551616)] 75)).alloc (.cells #[.int .u64 (r4 / 18446744073709551616), .int .u64 (r4 % 18446744073709551616)] 75)).alloc (.cells #[.int .u64 0, .int .u64 0, .int .u64 0, .int .u64 0, .int .u64 0] 26)) (grow (redrawn W2 q.d) q.os) := hB2.trans ((below_regrown _ q.d q.os).mono hB2.size)
  clear HB3
  generalize grow (redrawn W2 q.d) q.os = W3 at *
  have HB4 := fun (p : Nat) (cs : Array Value) (hp : ((((((w.alloc (.cells #[.int .u64 (r0 / 18446744073709551616), .int .u64 (r0 % 18446744073709551616)] 75)).alloc (.cells #[.int .u64 (r1 / 18446744073709551616), .int .u64 (r1 % 18446744073709551616)] 75)).alloc (.cells #[.int .u64 (r2 / 18446744073709551616), .int .u64 (r2 % 18446744073709551616)] 75)).alloc (.cells #[.int .u64 (r3 / 18446744073709551616), .int .u64 (r3 % 18446744073709551616)] 75)).alloc (.cells #[.int .u64 (r4 / 18446744073709551616), .int .u64 (r4 % 18446744073709551616)] 75)).alloc (.cells #[.int .u64 0, .int .u64 0, .int .u64 0, .int .u64 0, .int .u64 0] 26)).heap[p]? = some (.cells cs 75 (0, 0))) (hlt : p < ((((((w.alloc (.cells #[.int .u64 (r0 / 18446744073709551616), .int .u64 (r0 % 18446744073709551616)] 75)).alloc (.cells #[.int .u64 (r1 / 18446744073709551616), .int .u64 (r1 % 18446744073709551616)] 75)).alloc (.cells #[.int .u64 (r2 / 18446744073709551616), .int .u64 (r2 % 18446744073709551616)] 75)).alloc (.cells #[.int .u64 (r3 / 18446744073709551616), .int .u64 (r3 % 18446744073709551616)] 75)).alloc (.cells #[.int .u64 (r4 / 18446744073709551616), .int .u64 (r4 % 18446744073709551616)] 75)).alloc (.cells #[.int .u64 0, .int .u64 0, .int .u64 0, .int .u64 0, .int .u64 0] 26)).heap.size) => (fun W (hW : ∃ q : Regrown, W = grow (redrawn W3 q.d) q.os) => (by obtain ⟨q, rfl⟩ := hW; exact ((below_regrown _ q.d q.os).block _ (by have := hB3.size; omega)).trans ((hB3.block _ hlt).trans hp) : W.heap[p]? = some (.cells cs 75 (0, 0))))
  go_wp2
  refine wp_region_quiet_below (by kernel_rfl) (by kernel_rfl) ?_
  refine wpQuiet_load_row rfl 75 _ rfl (w.heap.size + 1 + 1 + 1 + 1) rfl 75 #[.int .u64 (r4 / 18446744073709551616), .int .u64 (r4 % 18446744073709551616)] (0, 0) _ (HB4 _ _ (hp6_4 w _ _ _ _ _ _) (by simp; try omega)) Tryd.underlying75 rfl (by kernel_rfl) ?_
  simp only [Act.put, List.setIfInBounds_toArray, List.set_cons_succ, List.set_cons_zero]
  go_big_quiet_step (exact Calls.regrown_of (rest_any r4 _))
  refine wpQuiet_load_row rfl 75 _ rfl (w.heap.size + 1 + 1 + 1) rfl 75 #[.int .u64 (r3 / 18446744073709551616), .int .u64 (r3 % 18446744073709551616)] (0, 0) _ (HB4 _ _ (hp6_3 w _ _ _ _ _ _) (by simp; try omega)) Tryd.underlying75 rfl (by kernel_rfl) ?_
  simp only [Act.put, List.setIfInBounds_toArray, List.set_cons_succ, List.set_cons_zero]
  go_big_quiet_step (exact Calls.regrown_of (over_any r3 l3 (by omega) _))
  repeat (go_big_quiet_step (fail))
  refine wpQuiet_nil ?_
  rintro _ ⟨q, rfl⟩
  have hB4 : Below ((((((w.alloc (.cells #[.int .u64 (r0 / 18446744073709551616), .int .u64 (r0 % 18446744073709551616)] 75)).alloc (.cells #[.int .u64 (r1 / 18446744073709551616), .int .u64 (r1 % 18446744073709551616)] 75)).alloc (.cells #[.int .u64 (r2 / 18446744073709551616), .int .u64 (r2 % 18446744073709551616)] 75)).alloc (.cells #[.int .u64 (r3 / 18446744073709551616), .int .u64 (r3 % 18446744073709551616)] 75)).alloc (.cells #[.int .u64 (r4 / 18446744073709551616), .int .u64 (r4 % 18446744073709551616)] 75)).alloc (.cells #[.int .u64 0, .int .u64 0, .int .u64 0, .int .u64 0, .int .u64 0] 26)).heap.size ((((((w.alloc (.cells #[.int .u64 (r0 / 18446744073709551616), .int .u64 (r0 % 18446744073709551616)] 75)).alloc (.cells #[.int .u64 (r1 / 18446744073709551616), .int .u64 (r1 % 18446744073709551616)] 75)).alloc (.cells #[.int .u64 (r2 / 18446744073709551616), .int .u64 (r2 % 18446744073709551616)] 75)).alloc (.cells #[.int .u64 (r3 / 18446744073709551616), .int .u64 (r3 % 18446744073709551616)] 75)).alloc (.cells #[.int .u64 (r4 / 18446744073709551616), .int .u64 (r4 % 18446744073709551616)] 75)).alloc (.cells #[.int .u64 0, .int .u64 0, .int .u64 0, .int .u64 0, .int .u64 0] 26)) (grow (redrawn W3 q.d) q.os) := hB3.trans ((below_regrown _ q.d q.os).mono hB3.size)
  clear HB4
  generalize grow (redrawn W3 q.d) q.os = W4 at *

  have rZ : W4.heap[w.heap.size + 1 + 1 + 1 + 1 + 1]? = some (.cells #[.int .u64 0, .int .u64 0, .int .u64 0, .int .u64 0, .int .u64 0] 26 (0, 0)) := (hB4.block _ (by simp)).trans (hp6_5 w _ _ _ _ _ _)
  have hbw : Below w.heap.size w W4 := ((((((((Below.refl _ _).alloc (Nat.le_refl _) _).alloc (by simp) _).alloc (by simp; omega) _).alloc (by simp; omega) _).alloc (by simp; omega) _).alloc (by simp; omega) _)).trans (hB4.mono (by simp; omega))
  clear hB0 hB1 hB2 hB3 hB4
  go_wp2_with (first | (refine wpList_store_row rfl 26 _ _ rfl (w.heap.size + 1 + 1 + 1 + 1 + 1) _ rfl rfl 26 _ rZ (by kernel_rfl) rfl (by kernel_rfl) ?_) | fail)
  rw [and51 (r0 % 2251799813685248 + 19 * (r4 / 2251799813685248)) (by omega) (by omega), and51 (r1 % 2251799813685248 + r0 / 2251799813685248) (by omega) (by omega), and51 (r2 % 2251799813685248 + r1 / 2251799813685248) (by omega) (by omega), and51 (r3 % 2251799813685248 + r2 / 2251799813685248) (by omega) (by omega), and51 (r4 % 2251799813685248 + r3 / 2251799813685248) (by omega) (by omega)]
  obtain ⟨k0, k1, k2, k3, k4⟩ := jn_wrap r0 r1 r2 r3 r4 l0 u0 l1 u1 l2 u2 l3 u3 l4 u4
  rw [k0, k1, k2, k3, k4]
  exact bodyPost_ret (v := .agg #[.int .u64 (jn 0 r0 r1 r2 r3 r4), .int .u64 (jn 1 r0 r1 r2 r3 r4), .int .u64 (jn 2 r0 r1 r2 r3 r4), .int .u64 (jn 3 r0 r1 r2 r3 r4), .int .u64 (jn 4 r0 r1 r2 r3 r4)]) (results_cell_row Tryd.results44 _ _ (w.heap.size + 1 + 1 + 1 + 1 + 1) _ #[.int .u64 (jn 0 r0 r1 r2 r3 r4), .int .u64 (jn 1 r0 r1 r2 r3 r4), .int .u64 (jn 2 r0 r1 r2 r3 r4), .int .u64 (jn 3 r0 r1 r2 r3 r4), .int .u64 (jn 4 r0 r1 r2 r3 r4)] _ _ rfl (setRow_heap _ _ _ _ _ _ rZ) Tryd.underlying26 rfl (by kernel_rfl)) rfl ⟨rfl, below_setRow hbw (by omega) _⟩

end Go.Proofs.YtnohfbpmckhbbaaDoor


namespace Go.Proofs.YtnohfbpmckhbbaaDoor
set_option maxRecDepth 100000
open Go.RowKit Go.Sort
attribute [local go_sem] setCell_drewN alloc_drewN


set_option maxHeartbeats 2000000 in
theorem times_any (a0 a1 a2 a3 a4 m : Int) (la0 : 0 ≤ a0) (ua0 : a0 < 4503599627370496) (la1 : 0 ≤ a1) (ua1 : a1 < 4503599627370496) (la2 : 0 ≤ a2) (ua2 : a2 < 4503599627370496) (la3 : 0 ≤ a3) (ua3 : a3 < 4503599627370496) (la4 : 0 ≤ a4) (ua4 : a4 < 4503599627370496) (lm : 0 ≤ m) (um : m < 4294967296) (w : World) :
    Calls Tryd.prog 20 #[.agg #[.int .u64 a0, .int .u64 a1, .int .u64 a2, .int .u64 a3, .int .u64 a4], .int .u32 m] w fun e w' => e = .returned (.agg #[.int .u64 (jn 0 (a0 * m) (a1 * m) (a2 * m) (a3 * m) (a4 * m)), .int .u64 (jn 1 (a0 * m) (a1 * m) (a2 * m) (a3 * m) (a4 * m)), .int .u64 (jn 2 (a0 * m) (a1 * m) (a2 * m) (a3 * m) (a4 * m)), .int .u64 (jn 3 (a0 * m) (a1 * m) (a2 * m) (a3 * m) (a4 * m)), .int .u64 (jn 4 (a0 * m) (a1 * m) (a2 * m) (a3 * m) (a4 * m))]) ∧ Below w.heap.size w w' := by
  have p0 := mul_bd a0 m 4503599627370496 4294967296 la0 (Int.le_of_lt ua0) lm (Int.le_of_lt um); have p1 := mul_bd a1 m 4503599627370496 4294967296 la1 (Int.le_of_lt ua1) lm (Int.le_of_lt um); have p2 := mul_bd a2 m 4503599627370496 4294967296 la2 (Int.le_of_lt ua2) lm (Int.le_of_lt um); have p3 := mul_bd a3 m 4503599627370496 4294967296 la3 (Int.le_of_lt ua3) lm (Int.le_of_lt um); have p4 := mul_bd a4 m 4503599627370496 4294967296 la4 (Int.le_of_lt ua4) lm (Int.le_of_lt um)
  have e0 := fun W => product_any a0 m la0 (by omega) lm (by omega) W; have e1 := fun W => product_any a1 m la1 (by omega) lm (by omega) W; have e2 := fun W => product_any a2 m la2 (by omega) lm (by omega) W; have e3 := fun W => product_any a3 m la3 (by omega) lm (by omega) W; have e4 := fun W => product_any a4 m la4 (by omega) lm (by omega) W
  have e5 := fun W => joined_any (a0 * m) (a1 * m) (a2 * m) (a3 * m) (a4 * m) p0.1 (by have := p0.2; omega) p1.1 (by have := p1.2; omega) p2.1 (by have := p2.2; omega) p3.1 (by have := p3.2; omega) p4.1 (by have := p4.2; omega) W
  have E0 := hide e0; have E1 := hide e1; have E2 := hide e2; have E3 := hide e3; have E4 := hide e4; have E5 := hide e5
  clear e0 e1 e2 e3 e4 e5 p0 p1 p2 p3 p4
  have k0 : ∀ p : Regrown, (grow (redrawn ((w.alloc (.cells #[.int .u64 a0, .int .u64 a1, .int .u64 a2, .int .u64 a3, .int .u64 a4] 26)).alloc (.cells #[.int .u64 0, .int .u64 0, .int .u64 0, .int .u64 0, .int .u64 0] 26)) p.d) p.os).cell? ⟨w.heap.size, 0, none⟩ = some (.int .u64 a0) := fun p => cell_regrown (by simp [go_sem]) p.d p.os; have k1 : ∀ p : Regrown, (grow (redrawn ((w.alloc (.cells #[.int .u64 a0, .int .u64 a1, .int .u64 a2, .int .u64 a3, .int .u64 a4] 26)).alloc (.cells #[.int .u64 0, .int .u64 0, .int .u64 0, .int .u64 0, .int .u64 0] 26)) p.d) p.os).cell? ⟨w.heap.size, 1, none⟩ = some (.int .u64 a1) := fun p => cell_regrown (by simp [go_sem]) p.d p.os; have k2 : ∀ p : Regrown, (grow (redrawn ((w.alloc (.cells #[.int .u64 a0, .int .u64 a1, .int .u64 a2, .int .u64 a3, .int .u64 a4] 26)).alloc (.cells #[.int .u64 0, .int .u64 0, .int .u64 0, .int .u64 0, .int .u64 0] 26)) p.d) p.os).cell? ⟨w.heap.size, 2, none⟩ = some (.int .u64 a2) := fun p => cell_regrown (by simp [go_sem]) p.d p.os; have k3 : ∀ p : Regrown, (grow (redrawn ((w.alloc (.cells #[.int .u64 a0, .int .u64 a1, .int .u64 a2, .int .u64 a3, .int .u64 a4] 26)).alloc (.cells #[.int .u64 0, .int .u64 0, .int .u64 0, .int .u64 0, .int .u64 0] 26)) p.d) p.os).cell? ⟨w.heap.size, 3, none⟩ = some (.int .u64 a3) := fun p => cell_regrown (by simp [go_sem]) p.d p.os; have k4 : ∀ p : Regrown, (grow (redrawn ((w.alloc (.cells #[.int .u64 a0, .int .u64 a1, .int .u64 a2, .int .u64 a3, .int .u64 a4] 26)).alloc (.cells #[.int .u64 0, .int .u64 0, .int .u64 0, .int .u64 0, .int .u64 0] 26)) p.d) p.os).cell? ⟨w.heap.size, 4, none⟩ = some (.int .u64 a4) := fun p => cell_regrown (by simp [go_sem]) p.d p.os
  have uc : ∀ W, (Below ((w.alloc (.cells #[.int .u64 a0, .int .u64 a1, .int .u64 a2, .int .u64 a3, .int .u64 a4] 26)).alloc (.cells #[.int .u64 0, .int .u64 0, .int .u64 0, .int .u64 0, .int .u64 0] 26)).heap.size ((w.alloc (.cells #[.int .u64 a0, .int .u64 a1, .int .u64 a2, .int .u64 a3, .int .u64 a4] 26)).alloc (.cells #[.int .u64 0, .int .u64 0, .int .u64 0, .int .u64 0, .int .u64 0] 26)) W) → W.heap[w.heap.size + 1]? = some (.cells #[.int .u64 0, .int .u64 0, .int .u64 0, .int .u64 0, .int .u64 0] 26 (0, 0)) := fun W hW => (hW.block _ (by simp)).trans (hp2_1 w _ _)
  go_enter Tryd.func20, Tryd.ntmps20
  go_wp2
  refine wp_region_tail (C := fun w' => ∃ p : Regrown, w' = grow (redrawn ((w.alloc (.cells #[.int .u64 a0, .int .u64 a1, .int .u64 a2, .int .u64 a3, .int .u64 a4] 26)).alloc (.cells #[.int .u64 0, .int .u64 0, .int .u64 0, .int .u64 0, .int .u64 0] 26)) p.d) p.os) 26 _ rfl rfl rfl (by kernel_rfl) (by kernel_rfl) (by kernel_rfl) (by kernel_rfl) ⟨⟨((w.alloc (.cells #[.int .u64 a0, .int .u64 a1, .int .u64 a2, .int .u64 a3, .int .u64 a4] 26)).alloc (.cells #[.int .u64 0, .int .u64 0, .int .u64 0, .int .u64 0, .int .u64 0] 26)).drawn + 1, #[]⟩, by rw [grow_empty]; rfl⟩ ?_
  dsimp only [List.set, idle]
  go_big_quiet_step (fail)
  go_big_quiet_step (fail)
  go_big_quiet_step (fail)
  go_big_quiet_step (fail)
  go_big_quiet_step (exact Calls.regrown_of (E0.out _))
  go_big_quiet_step (fail)
  go_big_quiet_step (fail)
  go_big_quiet_step (fail)
  go_big_quiet_step (fail)
  go_big_quiet_step (exact Calls.regrown_of (E1.out _))
  go_big_quiet_step (fail)
  go_big_quiet_step (fail)
  go_big_quiet_step (fail)
  go_big_quiet_step (fail)
  go_big_quiet_step (exact Calls.regrown_of (E2.out _))
  go_big_quiet_step (fail)
  go_big_quiet_step (fail)
  go_big_quiet_step (fail)
  go_big_quiet_step (fail)
  go_big_quiet_step (exact Calls.regrown_of (E3.out _))
  go_big_quiet_step (fail)
  go_big_quiet_step (fail)
  go_big_quiet_step (fail)
  go_big_quiet_step (fail)
  go_big_quiet_step (exact Calls.regrown_of (E4.out _))
  go_big_quiet_step (exact Calls.regrown_of (E5.out _))
  refine wpQuiet_idle rfl rfl rfl ?_
  rintro _ ⟨p, rfl⟩
  have hB := below_regrown ((w.alloc (.cells #[.int .u64 a0, .int .u64 a1, .int .u64 a2, .int .u64 a3, .int .u64 a4] 26)).alloc (.cells #[.int .u64 0, .int .u64 0, .int .u64 0, .int .u64 0, .int .u64 0] 26)) p.d p.os
  clear k0 k1 k2 k3 k4
  generalize grow (redrawn ((w.alloc (.cells #[.int .u64 a0, .int .u64 a1, .int .u64 a2, .int .u64 a3, .int .u64 a4] 26)).alloc (.cells #[.int .u64 0, .int .u64 0, .int .u64 0, .int .u64 0, .int .u64 0] 26)) p.d) p.os = W1 at *
  have rZ := uc W1 hB
  have hbw : Below w.heap.size w W1 := (((Below.refl _ _).alloc (Nat.le_refl _) _).alloc (by simp) _).trans (hB.mono (by simp; omega))
  clear uc hB
  go_wp2_with (first | (refine wpList_store_row rfl 26 _ _ rfl (w.heap.size + 1) #[.int .u64 (jn 0 (a0 * m) (a1 * m) (a2 * m) (a3 * m) (a4 * m)), .int .u64 (jn 1 (a0 * m) (a1 * m) (a2 * m) (a3 * m) (a4 * m)), .int .u64 (jn 2 (a0 * m) (a1 * m) (a2 * m) (a3 * m) (a4 * m)), .int .u64 (jn 3 (a0 * m) (a1 * m) (a2 * m) (a3 * m) (a4 * m)), .int .u64 (jn 4 (a0 * m) (a1 * m) (a2 * m) (a3 * m) (a4 * m))] rfl rfl 26 _ rZ (by kernel_rfl) rfl (by kernel_rfl) ?_) | fail)
  exact bodyPost_ret (v := .agg #[.int .u64 (jn 0 (a0 * m) (a1 * m) (a2 * m) (a3 * m) (a4 * m)), .int .u64 (jn 1 (a0 * m) (a1 * m) (a2 * m) (a3 * m) (a4 * m)), .int .u64 (jn 2 (a0 * m) (a1 * m) (a2 * m) (a3 * m) (a4 * m)), .int .u64 (jn 3 (a0 * m) (a1 * m) (a2 * m) (a3 * m) (a4 * m)), .int .u64 (jn 4 (a0 * m) (a1 * m) (a2 * m) (a3 * m) (a4 * m))]) (results_cell_row Tryd.results20 _ _ (w.heap.size + 1) _ #[.int .u64 (jn 0 (a0 * m) (a1 * m) (a2 * m) (a3 * m) (a4 * m)), .int .u64 (jn 1 (a0 * m) (a1 * m) (a2 * m) (a3 * m) (a4 * m)), .int .u64 (jn 2 (a0 * m) (a1 * m) (a2 * m) (a3 * m) (a4 * m)), .int .u64 (jn 3 (a0 * m) (a1 * m) (a2 * m) (a3 * m) (a4 * m)), .int .u64 (jn 4 (a0 * m) (a1 * m) (a2 * m) (a3 * m) (a4 * m))] _ _ rfl (setRow_heap _ _ _ _ _ _ rZ) Tryd.underlying26 rfl (by kernel_rfl)) rfl ⟨rfl, below_setRow hbw (by omega) _⟩


set_option maxHeartbeats 4000000 in
theorem mul_any (a0 a1 a2 a3 a4 b0 b1 b2 b3 b4 : Int) (la0 : 0 ≤ a0) (ua0 : a0 < 4503599627370496) (la1 : 0 ≤ a1) (ua1 : a1 < 4503599627370496) (la2 : 0 ≤ a2) (ua2 : a2 < 4503599627370496) (la3 : 0 ≤ a3) (ua3 : a3 < 4503599627370496) (la4 : 0 ≤ a4) (ua4 : a4 < 4503599627370496) (lb0 : 0 ≤ b0) (ub0 : b0 < 4503599627370496) (lb1 : 0 ≤ b1) (ub1 : b1 < 4503599627370496) (lb2 : 0 ≤ b2) (ub2 : b2 < 4503599627370496) (lb3 : 0 ≤ b3) (ub3 : b3 < 4503599627370496) (lb4 : 0 ≤ b4) (ub4 : b4 < 4503599627370496) (w : World) :
    Calls Tryd.prog 18 #[.agg #[.int .u64 a0, .int .u64 a1, .int .u64 a2, .int .u64 a3, .int .u64 a4], .agg #[.int .u64 b0, .int .u64 b1, .int .u64 b2, .int .u64 b3, .int .u64 b4]] w fun e w' => e = .returned (.agg #[.int .u64 (jn 0 (a0 * b0 + (19 * a1) * b4 + (19 * a2) * b3 + (19 * a3) * b2 + (19 * a4) * b1) (a0 * b1 + a1 * b0 + (19 * a2) * b4 + (19 * a3) * b3 + (19 * a4) * b2) (a0 * b2 + a1 * b1 + a2 * b0 + (19 * a3) * b4 + (19 * a4) * b3) (a0 * b3 + a1 * b2 + a2 * b1 + a3 * b0 + (19 * a4) * b4) (a0 * b4 + a1 * b3 + a2 * b2 + a3 * b1 + a4 * b0)), .int .u64 (jn 1 (a0 * b0 + (19 * a1) * b4 + (19 * a2) * b3 + (19 * a3) * b2 + (19 * a4) * b1) (a0 * b1 + a1 * b0 + (19 * a2) * b4 + (19 * a3) * b3 + (19 * a4) * b2) (a0 * b2 + a1 * b1 + a2 * b0 + (19 * a3) * b4 + (19 * a4) * b3) (a0 * b3 + a1 * b2 + a2 * b1 + a3 * b0 + (19 * a4) * b4) (a0 * b4 + a1 * b3 + a2 * b2 + a3 * b1 + a4 * b0)), .int .u64 (jn 2 (a0 * b0 + (19 * a1) * b4 + (19 * a2) * b3 + (19 * a3) * b2 + (19 * a4) * b1) (a0 * b1 + a1 * b0 + (19 * a2) * b4 + (19 * a3) * b3 + (19 * a4) * b2) (a0 * b2 + a1 * b1 + a2 * b0 + (19 * a3) * b4 + (19 * a4) * b3) (a0 * b3 + a1 * b2 + a2 * b1 + a3 * b0 + (19 * a4) * b4) (a0 * b4 + a1 * b3 + a2 * b2 + a3 * b1 + a4 * b0)), .int .u64 (jn 3 (a0 * b0 + (19 * a1) * b4 + (19 * a2) * b3 + (19 * a3) * b2 + (19 * a4) * b1) (a0 * b1 + a1 * b0 + (19 * a2) * b4 + (19 * a3) * b3 + (19 * a4) * b2) (a0 * b2 + a1 * b1 + a2 * b0 + (19 * a3) * b4 + (19 * a4) * b3) (a0 * b3 + a1 * b2 + a2 * b1 + a3 * b0 + (19 * a4) * b4) (a0 * b4 + a1 * b3 + a2 * b2 + a3 * b1 + a4 * b0)), .int .u64 (jn 4 (a0 * b0 + (19 * a1) * b4 + (19 * a2) * b3 + (19 * a3) * b2 + (19 * a4) * b1) (a0 * b1 + a1 * b0 + (19 * a2) * b4 + (19 * a3) * b3 + (19 * a4) * b2) (a0 * b2 + a1 * b1 + a2 * b0 + (19 * a3) * b4 + (19 * a4) * b3) (a0 * b3 + a1 * b2 + a2 * b1 + a3 * b0 + (19 * a4) * b4) (a0 * b4 + a1 * b3 + a2 * b2 + a3 * b1 + a4 * b0))]) ∧ Below w.heap.size w w' := by
  have p00 := mul_bd a0 b0 4503599627370495 4503599627370495 (by omega) (by omega) (by omega) (by omega)
  have p01 := mul_bd (19 * a1) b4 85568392920039405 4503599627370495 (by omega) (by omega) (by omega) (by omega)
  have p02 := mul_bd (19 * a2) b3 85568392920039405 4503599627370495 (by omega) (by omega) (by omega) (by omega)
  have p03 := mul_bd (19 * a3) b2 85568392920039405 4503599627370495 (by omega) (by omega) (by omega) (by omega)
  have p04 := mul_bd (19 * a4) b1 85568392920039405 4503599627370495 (by omega) (by omega) (by omega) (by omega)
  have p10 := mul_bd a0 b1 4503599627370495 4503599627370495 (by omega) (by omega) (by omega) (by omega)
  have p11 := mul_bd a1 b0 4503599627370495 4503599627370495 (by omega) (by omega) (by omega) (by omega)
  have p12 := mul_bd (19 * a2) b4 85568392920039405 4503599627370495 (by omega) (by omega) (by omega) (by omega)
  have p13 := mul_bd (19 * a3) b3 85568392920039405 4503599627370495 (by omega) (by omega) (by omega) (by omega)
  have p14 := mul_bd (19 * a4) b2 85568392920039405 4503599627370495 (by omega) (by omega) (by omega) (by omega)
  have p20 := mul_bd a0 b2 4503599627370495 4503599627370495 (by omega) (by omega) (by omega) (by omega)
  have p21 := mul_bd a1 b1 4503599627370495 4503599627370495 (by omega) (by omega) (by omega) (by omega)
  have p22 := mul_bd a2 b0 4503599627370495 4503599627370495 (by omega) (by omega) (by omega) (by omega)
  have p23 := mul_bd (19 * a3) b4 85568392920039405 4503599627370495 (by omega) (by omega) (by omega) (by omega)
  have p24 := mul_bd (19 * a4) b3 85568392920039405 4503599627370495 (by omega) (by omega) (by omega) (by omega)
  have p30 := mul_bd a0 b3 4503599627370495 4503599627370495 (by omega) (by omega) (by omega) (by omega)
  have p31 := mul_bd a1 b2 4503599627370495 4503599627370495 (by omega) (by omega) (by omega) (by omega)
  have p32 := mul_bd a2 b1 4503599627370495 4503599627370495 (by omega) (by omega) (by omega) (by omega)
  have p33 := mul_bd a3 b0 4503599627370495 4503599627370495 (by omega) (by omega) (by omega) (by omega)
  have p34 := mul_bd (19 * a4) b4 85568392920039405 4503599627370495 (by omega) (by omega) (by omega) (by omega)
  have p40 := mul_bd a0 b4 4503599627370495 4503599627370495 (by omega) (by omega) (by omega) (by omega)
  have p41 := mul_bd a1 b3 4503599627370495 4503599627370495 (by omega) (by omega) (by omega) (by omega)
  have p42 := mul_bd a2 b2 4503599627370495 4503599627370495 (by omega) (by omega) (by omega) (by omega)
  have p43 := mul_bd a3 b1 4503599627370495 4503599627370495 (by omega) (by omega) (by omega) (by omega)
  have p44 := mul_bd a4 b0 4503599627370495 4503599627370495 (by omega) (by omega) (by omega) (by omega)
  have e00 := fun W => product_any a0 b0 (by omega) (by omega) (by omega) (by omega) W
  have e01 := fun W => plus_any (a0 * b0) (19 * a1) b4 (by omega) (by omega) (by omega) (by omega) (by omega) (by omega) W
  have e02 := fun W => plus_any (a0 * b0 + (19 * a1) * b4) (19 * a2) b3 (by omega) (by omega) (by omega) (by omega) (by omega) (by omega) W
  have e03 := fun W => plus_any (a0 * b0 + (19 * a1) * b4 + (19 * a2) * b3) (19 * a3) b2 (by omega) (by omega) (by omega) (by omega) (by omega) (by omega) W
  have e04 := fun W => plus_any (a0 * b0 + (19 * a1) * b4 + (19 * a2) * b3 + (19 * a3) * b2) (19 * a4) b1 (by omega) (by omega) (by omega) (by omega) (by omega) (by omega) W
  have e10 := fun W => product_any a0 b1 (by omega) (by omega) (by omega) (by omega) W
  have e11 := fun W => plus_any (a0 * b1) a1 b0 (by omega) (by omega) (by omega) (by omega) (by omega) (by omega) W
  have e12 := fun W => plus_any (a0 * b1 + a1 * b0) (19 * a2) b4 (by omega) (by omega) (by omega) (by omega) (by omega) (by omega) W
  have e13 := fun W => plus_any (a0 * b1 + a1 * b0 + (19 * a2) * b4) (19 * a3) b3 (by omega) (by omega) (by omega) (by omega) (by omega) (by omega) W
  have e14 := fun W => plus_any (a0 * b1 + a1 * b0 + (19 * a2) * b4 + (19 * a3) * b3) (19 * a4) b2 (by omega) (by omega) (by omega) (by omega) (by omega) (by omega) W
  have e20 := fun W => product_any a0 b2 (by omega) (by omega) (by omega) (by omega) W
  have e21 := fun W => plus_any (a0 * b2) a1 b1 (by omega) (by omega) (by omega) (by omega) (by omega) (by omega) W
  have e22 := fun W => plus_any (a0 * b2 + a1 * b1) a2 b0 (by omega) (by omega) (by omega) (by omega) (by omega) (by omega) W
  have e23 := fun W => plus_any (a0 * b2 + a1 * b1 + a2 * b0) (19 * a3) b4 (by omega) (by omega) (by omega) (by omega) (by omega) (by omega) W
  have e24 := fun W => plus_any (a0 * b2 + a1 * b1 + a2 * b0 + (19 * a3) * b4) (19 * a4) b3 (by omega) (by omega) (by omega) (by omega) (by omega) (by omega) W
  have e30 := fun W => product_any a0 b3 (by omega) (by omega) (by omega) (by omega) W
  have e31 := fun W => plus_any (a0 * b3) a1 b2 (by omega) (by omega) (by omega) (by omega) (by omega) (by omega) W
  have e32 := fun W => plus_any (a0 * b3 + a1 * b2) a2 b1 (by omega) (by omega) (by omega) (by omega) (by omega) (by omega) W
  have e33 := fun W => plus_any (a0 * b3 + a1 * b2 + a2 * b1) a3 b0 (by omega) (by omega) (by omega) (by omega) (by omega) (by omega) W
  have e34 := fun W => plus_any (a0 * b3 + a1 * b2 + a2 * b1 + a3 * b0) (19 * a4) b4 (by omega) (by omega) (by omega) (by omega) (by omega) (by omega) W
  have e40 := fun W => product_any a0 b4 (by omega) (by omega) (by omega) (by omega) W
  have e41 := fun W => plus_any (a0 * b4) a1 b3 (by omega) (by omega) (by omega) (by omega) (by omega) (by omega) W
  have e42 := fun W => plus_any (a0 * b4 + a1 * b3) a2 b2 (by omega) (by omega) (by omega) (by omega) (by omega) (by omega) W
  have e43 := fun W => plus_any (a0 * b4 + a1 * b3 + a2 * b2) a3 b1 (by omega) (by omega) (by omega) (by omega) (by omega) (by omega) W
  have e44 := fun W => plus_any (a0 * b4 + a1 * b3 + a2 * b2 + a3 * b1) a4 b0 (by omega) (by omega) (by omega) (by omega) (by omega) (by omega) W
  have ej := fun W => joined_any (a0 * b0 + (19 * a1) * b4 + (19 * a2) * b3 + (19 * a3) * b2 + (19 * a4) * b1) (a0 * b1 + a1 * b0 + (19 * a2) * b4 + (19 * a3) * b3 + (19 * a4) * b2) (a0 * b2 + a1 * b1 + a2 * b0 + (19 * a3) * b4 + (19 * a4) * b3) (a0 * b3 + a1 * b2 + a2 * b1 + a3 * b0 + (19 * a4) * b4) (a0 * b4 + a1 * b3 + a2 * b2 + a3 * b1 + a4 * b0) (by omega) (by omega) (by omega) (by omega) (by omega) (by omega) (by omega) (by omega) (by omega) (by omega) W
  have E00 := hide e00; have E01 := hide e01; have E02 := hide e02; have E03 := hide e03; have E04 := hide e04; have E10 := hide e10; have E11 := hide e11; have E12 := hide e12; have E13 := hide e13; have E14 := hide e14; have E20 := hide e20; have E21 := hide e21; have E22 := hide e22; have E23 := hide e23; have E24 := hide e24; have E30 := hide e30; have E31 := hide e31; have E32 := hide e32; have E33 := hide e33; have E34 := hide e34; have E40 := hide e40; have E41 := hide e41; have E42 := hide e42; have E43 := hide e43; have E44 := hide e44; have Ej := hide ej
  clear e00 e01 e02 e03 e04 e10 e11 e12 e13 e14 e20 e21 e22 e23 e24 e30 e31 e32 e33 e34 e40 e41 e42 e43 e44 ej p00 p01 p02 p03 p04 p10 p11 p12 p13 p14 p20 p21 p22 p23 p24 p30 p31 p32 p33 p34 p40 p41 p42 p43 p44
  go_enter Tryd.func18, Tryd.ntmps18
  go_wp2
  go_quiet (fail)
  go_wp2_with fail
  go_quiet (fail)
  go_wp2_with fail

  refine (lift_calls (Below.refl _ _) (E00.out _)).mono ?_
  rintro e X0 ⟨rfl, h0⟩
  go_wp2_with fail
  refine (lift_calls h0 (E01.out _)).mono ?_
  rintro e X1 ⟨rfl, h1⟩
  clear h0
  go_wp2_with fail
  refine (lift_calls h1 (E02.out _)).mono ?_
  rintro e X2 ⟨rfl, h2⟩
  clear h1
  go_wp2_with fail
  refine (lift_calls h2 (E03.out _)).mono ?_
  rintro e X3 ⟨rfl, h3⟩
  clear h2
  go_wp2_with fail
  refine (lift_calls h3 (E04.out _)).mono ?_
  rintro e X4 ⟨rfl, h4⟩
  clear h3
  go_wp2_with fail
  refine (lift_calls h4 (E10.out _)).mono ?_
  rintro e X5 ⟨rfl, h5⟩
  clear h4
  go_wp2_with fail
  refine (lift_calls h5 (E11.out _)).mono ?_
  rintro e X6 ⟨rfl, h6⟩
  clear h5
  go_wp2_with fail
  refine (lift_calls h6 (E12.out _)).mono ?_
  rintro e X7 ⟨rfl, h7⟩
  clear h6
  go_wp2_with fail
  refine (lift_calls h7 (E13.out _)).mono ?_
  rintro e X8 ⟨rfl, h8⟩
  clear h7
  go_wp2_with fail
  refine (lift_calls h8 (E14.out _)).mono ?_
  rintro e X9 ⟨rfl, h9⟩
  clear h8
  go_wp2_with fail
  refine (lift_calls h9 (E20.out _)).mono ?_
  rintro e X10 ⟨rfl, h10⟩
  clear h9
  go_wp2_with fail
  refine (lift_calls h10 (E21.out _)).mono ?_
  rintro e X11 ⟨rfl, h11⟩
  clear h10
  go_wp2_with fail
  refine (lift_calls h11 (E22.out _)).mono ?_
  rintro e X12 ⟨rfl, h12⟩
  clear h11
  go_wp2_with fail
  refine (lift_calls h12 (E23.out _)).mono ?_
  rintro e X13 ⟨rfl, h13⟩
  clear h12
  go_wp2_with fail
  refine (lift_calls h13 (E24.out _)).mono ?_
  rintro e X14 ⟨rfl, h14⟩
  clear h13
  go_wp2_with fail
  refine (lift_calls h14 (E30.out _)).mono ?_
  rintro e X15 ⟨rfl, h15⟩
  clear h14
  go_wp2_with fail
  refine (lift_calls h15 (E31.out _)).mono ?_
  rintro e X16 ⟨rfl, h16⟩
  clear h15
  go_wp2_with fail
  refine (lift_calls h16 (E32.out _)).mono ?_
  rintro e X17 ⟨rfl, h17⟩
  clear h16
  go_wp2_with fail
  refine (lift_calls h17 (E33.out _)).mono ?_
  rintro e X18 ⟨rfl, h18⟩
  clear h17
  go_wp2_with fail
  refine (lift_calls h18 (E34.out _)).mono ?_
  rintro e X19 ⟨rfl, h19⟩
  clear h18
  go_wp2_with fail
  refine (lift_calls h19 (E40.out _)).mono ?_
  rintro e X20 ⟨rfl, h20⟩
  clear h19
  go_wp2_with fail
  refine (lift_calls h20 (E41.out _)).mono ?_
  rintro e X21 ⟨rfl, h21⟩
  clear h20
  go_wp2_with fail
  refine (lift_calls h21 (E42.out _)).mono ?_
  rintro e X22 ⟨rfl, h22⟩
  clear h21
  go_wp2_with fail
  refine (lift_calls h22 (E43.out _)).mono ?_
  rintro e X23 ⟨rfl, h23⟩
  clear h22
  go_wp2_with fail
  refine (lift_calls h23 (E44.out _)).mono ?_
  rintro e X24 ⟨rfl, h24⟩
  clear h23
  go_wp2_with fail
  refine (lift_calls h24 (Ej.out _)).mono ?_
  rintro e X25 ⟨rfl, h25⟩
  clear h24
  have hs := h25.size
  rw [World.heap_drewN] at hs
  have rZ : X25.heap[w.heap.size + 1 + 1]? = some (.cells #[.int .u64 0, .int .u64 0, .int .u64 0, .int .u64 0, .int .u64 0] 26 (0, 0)) := (h25.block _ (by simp)).trans (by rw [World.heap_drewN, hp3_2])
  have hbw : Below w.heap.size w X25 := (below_drN ((((Below.refl _ _).alloc (Nat.le_refl _) _).alloc (by simp) _).alloc (by simp; omega) _) _).trans (h25.mono (by simp; omega))
  clear h25 hs
  go_wp2_with (first | (refine wpList_store_row rfl 26 _ _ rfl (w.heap.size + 1 + 1) #[.int .u64 (jn 0 (a0 * b0 + (19 * a1) * b4 + (19 * a2) * b3 + (19 * a3) * b2 + (19 * a4) * b1) (a0 * b1 + a1 * b0 + (19 * a2) * b4 + (19 * a3) * b3 + (19 * a4) * b2) (a0 * b2 + a1 * b1 + a2 * b0 + (19 * a3) * b4 + (19 * a4) * b3) (a0 * b3 + a1 * b2 + a2 * b1 + a3 * b0 + (19 * a4) * b4) (a0 * b4 + a1 * b3 + a2 * b2 + a3 * b1 + a4 * b0)), .int .u64 (jn 1 (a0 * b0 + (19 * a1) * b4 + (19 * a2) * b3 + (19 * a3) * b2 + (19 * a4) * b1) (a0 * b1 + a1 * b0 + (19 * a2) * b4 + (19 * a3) * b3 + (19 * a4) * b2) (a0 * b2 + a1 * b1 + a2 * b0 + (19 * a3) * b4 + (19 * a4) * b3) (a0 * b3 + a1 * b2 + a2 * b1 + a3 * b0 + (19 * a4) * b4) (a0 * b4 + a1 * b3 + a2 * b2 + a3 * b1 + a4 * b0)), .int .u64 (jn 2 (a0 * b0 + (19 * a1) * b4 + (19 * a2) * b3 + (19 * a3) * b2 + (19 * a4) * b1) (a0 * b1 + a1 * b0 + (19 * a2) * b4 + (19 * a3) * b3 + (19 * a4) * b2) (a0 * b2 + a1 * b1 + a2 * b0 + (19 * a3) * b4 + (19 * a4) * b3) (a0 * b3 + a1 * b2 + a2 * b1 + a3 * b0 + (19 * a4) * b4) (a0 * b4 + a1 * b3 + a2 * b2 + a3 * b1 + a4 * b0)), .int .u64 (jn 3 (a0 * b0 + (19 * a1) * b4 + (19 * a2) * b3 + (19 * a3) * b2 + (19 * a4) * b1) (a0 * b1 + a1 * b0 + (19 * a2) * b4 + (19 * a3) * b3 + (19 * a4) * b2) (a0 * b2 + a1 * b1 + a2 * b0 + (19 * a3) * b4 + (19 * a4) * b3) (a0 * b3 + a1 * b2 + a2 * b1 + a3 * b0 + (19 * a4) * b4) (a0 * b4 + a1 * b3 + a2 * b2 + a3 * b1 + a4 * b0)), .int .u64 (jn 4 (a0 * b0 + (19 * a1) * b4 + (19 * a2) * b3 + (19 * a3) * b2 + (19 * a4) * b1) (a0 * b1 + a1 * b0 + (19 * a2) * b4 + (19 * a3) * b3 + (19 * a4) * b2) (a0 * b2 + a1 * b1 + a2 * b0 + (19 * a3) * b4 + (19 * a4) * b3) (a0 * b3 + a1 * b2 + a2 * b1 + a3 * b0 + (19 * a4) * b4) (a0 * b4 + a1 * b3 + a2 * b2 + a3 * b1 + a4 * b0))] rfl rfl 26 _ rZ (by kernel_rfl) rfl (by kernel_rfl) ?_) | fail)
  exact bodyPost_ret (v := .agg #[.int .u64 (jn 0 (a0 * b0 + (19 * a1) * b4 + (19 * a2) * b3 + (19 * a3) * b2 + (19 * a4) * b1) (a0 * b1 + a1 * b0 + (19 * a2) * b4 + (19 * a3) * b3 + (19 * a4) * b2) (a0 * b2 + a1 * b1 + a2 * b0 + (19 * a3) * b4 + (19 * a4) * b3) (a0 * b3 + a1 * b2 + a2 * b1 + a3 * b0 + (19 * a4) * b4) (a0 * b4 + a1 * b3 + a2 * b2 + a3 * b1 + a4 * b0)), .int .u64 (jn 1 (a0 * b0 + (19 * a1) * b4 + (19 * a2) * b3 + (19 * a3) * b2 + (19 * a4) * b1) (a0 * b1 + a1 * b0 + (19 * a2) * b4 + (19 * a3) * b3 + (19 * a4) * b2) (a0 * b2 + a1 * b1 + a2 * b0 + (19 * a3) * b4 + (19 * a4) * b3) (a0 * b3 + a1 * b2 + a2 * b1 + a3 * b0 + (19 * a4) * b4) (a0 * b4 + a1 * b3 + a2 * b2 + a3 * b1 + a4 * b0)), .int .u64 (jn 2 (a0 * b0 + (19 * a1) * b4 + (19 * a2) * b3 + (19 * a3) * b2 + (19 * a4) * b1) (a0 * b1 + a1 * b0 + (19 * a2) * b4 + (19 * a3) * b3 + (19 * a4) * b2) (a0 * b2 + a1 * b1 + a2 * b0 + (19 * a3) * b4 + (19 * a4) * b3) (a0 * b3 + a1 * b2 + a2 * b1 + a3 * b0 + (19 * a4) * b4) (a0 * b4 + a1 * b3 + a2 * b2 + a3 * b1 + a4 * b0)), .int .u64 (jn 3 (a0 * b0 + (19 * a1) * b4 + (19 * a2) * b3 + (19 * a3) * b2 + (19 * a4) * b1) (a0 * b1 + a1 * b0 + (19 * a2) * b4 + (19 * a3) * b3 + (19 * a4) * b2) (a0 * b2 + a1 * b1 + a2 * b0 + (19 * a3) * b4 + (19 * a4) * b3) (a0 * b3 + a1 * b2 + a2 * b1 + a3 * b0 + (19 * a4) * b4) (a0 * b4 + a1 * b3 + a2 * b2 + a3 * b1 + a4 * b0)), .int .u64 (jn 4 (a0 * b0 + (19 * a1) * b4 + (19 * a2) * b3 + (19 * a3) * b2 + (19 * a4) * b1) (a0 * b1 + a1 * b0 + (19 * a2) * b4 + (19 * a3) * b3 + (19 * a4) * b2) (a0 * b2 + a1 * b1 + a2 * b0 + (19 * a3) * b4 + (19 * a4) * b3) (a0 * b3 + a1 * b2 + a2 * b1 + a3 * b0 + (19 * a4) * b4) (a0 * b4 + a1 * b3 + a2 * b2 + a3 * b1 + a4 * b0))]) (results_cell_row Tryd.results18 _ _ (w.heap.size + 1 + 1) _ #[.int .u64 (jn 0 (a0 * b0 + (19 * a1) * b4 + (19 * a2) * b3 + (19 * a3) * b2 + (19 * a4) * b1) (a0 * b1 + a1 * b0 + (19 * a2) * b4 + (19 * a3) * b3 + (19 * a4) * b2) (a0 * b2 + a1 * b1 + a2 * b0 + (19 * a3) * b4 + (19 * a4) * b3) (a0 * b3 + a1 * b2 + a2 * b1 + a3 * b0 + (19 * a4) * b4) (a0 * b4 + a1 * b3 + a2 * b2 + a3 * b1 + a4 * b0)), .int .u64 (jn 1 (a0 * b0 + (19 * a1) * b4 + (19 * a2) * b3 + (19 * a3) * b2 + (19 * a4) * b1) (a0 * b1 + a1 * b0 + (19 * a2) * b4 + (19 * a3) * b3 + (19 * a4) * b2) (a0 * b2 + a1 * b1 + a2 * b0 + (19 * a3) * b4 + (19 * a4) * b3) (a0 * b3 + a1 * b2 + a2 * b1 + a3 * b0 + (19 * a4) * b4) (a0 * b4 + a1 * b3 + a2 * b2 + a3 * b1 + a4 * b0)), .int .u64 (jn 2 (a0 * b0 + (19 * a1) * b4 + (19 * a2) * b3 + (19 * a3) * b2 + (19 * a4) * b1) (a0 * b1 + a1 * b0 + (19 * a2) * b4 + (19 * a3) * b3 + (19 * a4) * b2) (a0 * b2 + a1 * b1 + a2 * b0 + (19 * a3) * b4 + (19 * a4) * b3) (a0 * b3 + a1 * b2 + a2 * b1 + a3 * b0 + (19 * a4) * b4) (a0 * b4 + a1 * b3 + a2 * b2 + a3 * b1 + a4 * b0)), .int .u64 (jn 3 (a0 * b0 + (19 * a1) * b4 + (19 * a2) * b3 + (19 * a3) * b2 + (19 * a4) * b1) (a0 * b1 + a1 * b0 + (19 * a2) * b4 + (19 * a3) * b3 + (19 * a4) * b2) (a0 * b2 + a1 * b1 + a2 * b0 + (19 * a3) * b4 + (19 * a4) * b3) (a0 * b3 + a1 * b2 + a2 * b1 + a3 * b0 + (19 * a4) * b4) (a0 * b4 + a1 * b3 + a2 * b2 + a3 * b1 + a4 * b0)), .int .u64 (jn 4 (a0 * b0 + (19 * a1) * b4 + (19 * a2) * b3 + (19 * a3) * b2 + (19 * a4) * b1) (a0 * b1 + a1 * b0 + (19 * a2) * b4 + (19 * a3) * b3 + (19 * a4) * b2) (a0 * b2 + a1 * b1 + a2 * b0 + (19 * a3) * b4 + (19 * a4) * b3) (a0 * b3 + a1 * b2 + a2 * b1 + a3 * b0 + (19 * a4) * b4) (a0 * b4 + a1 * b3 + a2 * b2 + a3 * b1 + a4 * b0))] _ _ rfl (setRow_heap _ _ _ _ _ _ rZ) Tryd.underlying26 rfl (by kernel_rfl)) rfl ⟨rfl, below_setRow hbw (by omega) _⟩


set_option maxHeartbeats 4000000 in
theorem square_any (a0 a1 a2 a3 a4 : Int) (la0 : 0 ≤ a0) (ua0 : a0 < 4503599627370496) (la1 : 0 ≤ a1) (ua1 : a1 < 4503599627370496) (la2 : 0 ≤ a2) (ua2 : a2 < 4503599627370496) (la3 : 0 ≤ a3) (ua3 : a3 < 4503599627370496) (la4 : 0 ≤ a4) (ua4 : a4 < 4503599627370496)  (w : World) :
    Calls Tryd.prog 19 #[.agg #[.int .u64 a0, .int .u64 a1, .int .u64 a2, .int .u64 a3, .int .u64 a4]] w fun e w' => e = .returned (.agg #[.int .u64 (jn 0 (a0 * a0 + (2 * a1) * (19 * a4) + (2 * a2) * (19 * a3)) ((2 * a0) * a1 + (2 * a2) * (19 * a4) + a3 * (19 * a3)) ((2 * a0) * a2 + a1 * a1 + (2 * a3) * (19 * a4)) ((2 * a0) * a3 + (2 * a1) * a2 + a4 * (19 * a4)) ((2 * a0) * a4 + (2 * a1) * a3 + a2 * a2)), .int .u64 (jn 1 (a0 * a0 + (2 * a1) * (19 * a4) + (2 * a2) * (19 * a3)) ((2 * a0) * a1 + (2 * a2) * (19 * a4) + a3 * (19 * a3)) ((2 * a0) * a2 + a1 * a1 + (2 * a3) * (19 * a4)) ((2 * a0) * a3 + (2 * a1) * a2 + a4 * (19 * a4)) ((2 * a0) * a4 + (2 * a1) * a3 + a2 * a2)), .int .u64 (jn 2 (a0 * a0 + (2 * a1) * (19 * a4) + (2 * a2) * (19 * a3)) ((2 * a0) * a1 + (2 * a2) * (19 * a4) + a3 * (19 * a3)) ((2 * a0) * a2 + a1 * a1 + (2 * a3) * (19 * a4)) ((2 * a0) * a3 + (2 * a1) * a2 + a4 * (19 * a4)) ((2 * a0) * a4 + (2 * a1) * a3 + a2 * a2)), .int .u64 (jn 3 (a0 * a0 + (2 * a1) * (19 * a4) + (2 * a2) * (19 * a3)) ((2 * a0) * a1 + (2 * a2) * (19 * a4) + a3 * (19 * a3)) ((2 * a0) * a2 + a1 * a1 + (2 * a3) * (19 * a4)) ((2 * a0) * a3 + (2 * a1) * a2 + a4 * (19 * a4)) ((2 * a0) * a4 + (2 * a1) * a3 + a2 * a2)), .int .u64 (jn 4 (a0 * a0 + (2 * a1) * (19 * a4) + (2 * a2) * (19 * a3)) ((2 * a0) * a1 + (2 * a2) * (19 * a4) + a3 * (19 * a3)) ((2 * a0) * a2 + a1 * a1 + (2 * a3) * (19 * a4)) ((2 * a0) * a3 + (2 * a1) * a2 + a4 * (19 * a4)) ((2 * a0) * a4 + (2 * a1) * a3 + a2 * a2))]) ∧ Below w.heap.size w w' := by
  have p00 := mul_bd a0 a0 4503599627370495 4503599627370495 (by omega) (by omega) (by omega) (by omega)
  have p01 := mul_bd (2 * a1) (19 * a4) 9007199254740990 85568392920039405 (by omega) (by omega) (by omega) (by omega)
  have p02 := mul_bd (2 * a2) (19 * a3) 9007199254740990 85568392920039405 (by omega) (by omega) (by omega) (by omega)
  have p10 := mul_bd (2 * a0) a1 9007199254740990 4503599627370495 (by omega) (by omega) (by omega) (by omega)
  have p11 := mul_bd (2 * a2) (19 * a4) 9007199254740990 85568392920039405 (by omega) (by omega) (by omega) (by omega)
  have p12 := mul_bd a3 (19 * a3) 4503599627370495 85568392920039405 (by omega) (by omega) (by omega) (by omega)
  have p20 := mul_bd (2 * a0) a2 9007199254740990 4503599627370495 (by omega) (by omega) (by omega) (by omega)
  have p21 := mul_bd a1 a1 4503599627370495 4503599627370495 (by omega) (by omega) (by omega) (by omega)
  have p22 := mul_bd (2 * a3) (19 * a4) 9007199254740990 85568392920039405 (by omega) (by omega) (by omega) (by omega)
  have p30 := mul_bd (2 * a0) a3 9007199254740990 4503599627370495 (by omega) (by omega) (by omega) (by omega)
  have p31 := mul_bd (2 * a1) a2 9007199254740990 4503599627370495 (by omega) (by omega) (by omega) (by omega)
  have p32 := mul_bd a4 (19 * a4) 4503599627370495 85568392920039405 (by omega) (by omega) (by omega) (by omega)
  have p40 := mul_bd (2 * a0) a4 9007199254740990 4503599627370495 (by omega) (by omega) (by omega) (by omega)
  have p41 := mul_bd (2 * a1) a3 9007199254740990 4503599627370495 (by omega) (by omega) (by omega) (by omega)
  have p42 := mul_bd a2 a2 4503599627370495 4503599627370495 (by omega) (by omega) (by omega) (by omega)
  have e00 := fun W => product_any a0 a0 (by omega) (by omega) (by omega) (by omega) W
  have e01 := fun W => plus_any (a0 * a0) (2 * a1) (19 * a4) (by omega) (by omega) (by omega) (by omega) (by omega) (by omega) W
  have e02 := fun W => plus_any (a0 * a0 + (2 * a1) * (19 * a4)) (2 * a2) (19 * a3) (by omega) (by omega) (by omega) (by omega) (by omega) (by omega) W
  have e10 := fun W => product_any (2 * a0) a1 (by omega) (by omega) (by omega) (by omega) W
  have e11 := fun W => plus_any ((2 * a0) * a1) (2 * a2) (19 * a4) (by omega) (by omega) (by omega) (by omega) (by omega) (by omega) W
  have e12 := fun W => plus_any ((2 * a0) * a1 + (2 * a2) * (19 * a4)) a3 (19 * a3) (by omega) (by omega) (by omega) (by omega) (by omega) (by omega) W
  have e20 := fun W => product_any (2 * a0) a2 (by omega) (by omega) (by omega) (by omega) W
  have e21 := fun W => plus_any ((2 * a0) * a2) a1 a1 (by omega) (by omega) (by omega) (by omega) (by omega) (by omega) W
  have e22 := fun W => plus_any ((2 * a0) * a2 + a1 * a1) (2 * a3) (19 * a4) (by omega) (by omega) (by omega) (by omega) (by omega) (by omega) W
  have e30 := fun W => product_any (2 * a0) a3 (by omega) (by omega) (by omega) (by omega) W
  have e31 := fun W => plus_any ((2 * a0) * a3) (2 * a1) a2 (by omega) (by omega) (by omega) (by omega) (by omega) (by omega) W
  have e32 := fun W => plus_any ((2 * a0) * a3 + (2 * a1) * a2) a4 (19 * a4) (by omega) (by omega) (by omega) (by omega) (by omega) (by omega) W
  have e40 := fun W => product_any (2 * a0) a4 (by omega) (by omega) (by omega) (by omega) W
  have e41 := fun W => plus_any ((2 * a0) * a4) (2 * a1) a3 (by omega) (by omega) (by omega) (by omega) (by omega) (by omega) W
  have e42 := fun W => plus_any ((2 * a0) * a4 + (2 * a1) * a3) a2 a2 (by omega) (by omega) (by omega) (by omega) (by omega) (by omega) W
  have ej := fun W => joined_any (a0 * a0 + (2 * a1) * (19 * a4) + (2 * a2) * (19 * a3)) ((2 * a0) * a1 + (2 * a2) * (19 * a4) + a3 * (19 * a3)) ((2 * a0) * a2 + a1 * a1 + (2 * a3) * (19 * a4)) ((2 * a0) * a3 + (2 * a1) * a2 + a4 * (19 * a4)) ((2 * a0) * a4 + (2 * a1) * a3 + a2 * a2) (by omega) (by omega) (by omega) (by omega) (by omega) (by omega) (by omega) (by omega) (by omega) (by omega) W
  have E00 := hide e00; have E01 := hide e01; have E02 := hide e02; have E10 := hide e10; have E11 := hide e11; have E12 := hide e12; have E20 := hide e20; have E21 := hide e21; have E22 := hide e22; have E30 := hide e30; have E31 := hide e31; have E32 := hide e32; have E40 := hide e40; have E41 := hide e41; have E42 := hide e42; have Ej := hide ej
  clear e00 e01 e02 e10 e11 e12 e20 e21 e22 e30 e31 e32 e40 e41 e42 ej p00 p01 p02 p10 p11 p12 p20 p21 p22 p30 p31 p32 p40 p41 p42
  go_enter Tryd.func19, Tryd.ntmps19
  go_wp2
  go_quiet (fail)
  go_wp2_with fail

  refine (lift_calls (Below.refl _ _) (E00.out _)).mono ?_
  rintro e X0 ⟨rfl, h0⟩
  go_wp2_with fail
  refine (lift_calls h0 (E01.out _)).mono ?_
  rintro e X1 ⟨rfl, h1⟩
  clear h0
  go_wp2_with fail
  refine (lift_calls h1 (E02.out _)).mono ?_
  rintro e X2 ⟨rfl, h2⟩
  clear h1
  go_wp2_with fail
  refine (lift_calls h2 (E10.out _)).mono ?_
  rintro e X3 ⟨rfl, h3⟩
  clear h2
  go_wp2_with fail
  refine (lift_calls h3 (E11.out _)).mono ?_
  rintro e X4 ⟨rfl, h4⟩
  clear h3
  go_wp2_with fail
  refine (lift_calls h4 (E12.out _)).mono ?_
  rintro e X5 ⟨rfl, h5⟩
  clear h4
  go_wp2_with fail
  refine (lift_calls h5 (E20.out _)).mono ?_
  rintro e X6 ⟨rfl, h6⟩
  clear h5
  go_wp2_with fail
  refine (lift_calls h6 (E21.out _)).mono ?_
  rintro e X7 ⟨rfl, h7⟩
  clear h6
  go_wp2_with fail
  refine (lift_calls h7 (E22.out _)).mono ?_
  rintro e X8 ⟨rfl, h8⟩
  clear h7
  go_wp2_with fail
  refine (lift_calls h8 (E30.out _)).mono ?_
  rintro e X9 ⟨rfl, h9⟩
  clear h8
  go_wp2_with fail
  refine (lift_calls h9 (E31.out _)).mono ?_
  rintro e X10 ⟨rfl, h10⟩
  clear h9
  go_wp2_with fail
  refine (lift_calls h10 (E32.out _)).mono ?_
  rintro e X11 ⟨rfl, h11⟩
  clear h10
  go_wp2_with fail
  refine (lift_calls h11 (E40.out _)).mono ?_
  rintro e X12 ⟨rfl, h12⟩
  clear h11
  go_wp2_with fail
  refine (lift_calls h12 (E41.out _)).mono ?_
  rintro e X13 ⟨rfl, h13⟩
  clear h12
  go_wp2_with fail
  refine (lift_calls h13 (E42.out _)).mono ?_
  rintro e X14 ⟨rfl, h14⟩
  clear h13
  go_wp2_with fail
  refine (lift_calls h14 (Ej.out _)).mono ?_
  rintro e X15 ⟨rfl, h15⟩
  clear h14
  have hs := h15.size
  rw [World.heap_drewN] at hs
  have rZ : X15.heap[w.heap.size + 1]? = some (.cells #[.int .u64 0, .int .u64 0, .int .u64 0, .int .u64 0, .int .u64 0] 26 (0, 0)) := (h15.block _ (by simp)).trans (by rw [World.heap_drewN, hp2_1])
  have hbw : Below w.heap.size w X15 := (below_drN (((Below.refl _ _).alloc (Nat.le_refl _) _).alloc (by simp) _) _).trans (h15.mono (by simp; omega))
  clear h15 hs
  go_wp2_with (first | (refine wpList_store_row rfl 26 _ _ rfl (w.heap.size + 1) #[.int .u64 (jn 0 (a0 * a0 + (2 * a1) * (19 * a4) + (2 * a2) * (19 * a3)) ((2 * a0) * a1 + (2 * a2) * (19 * a4) + a3 * (19 * a3)) ((2 * a0) * a2 + a1 * a1 + (2 * a3) * (19 * a4)) ((2 * a0) * a3 + (2 * a1) * a2 + a4 * (19 * a4)) ((2 * a0) * a4 + (2 * a1) * a3 + a2 * a2)), .int .u64 (jn 1 (a0 * a0 + (2 * a1) * (19 * a4) + (2 * a2) * (19 * a3)) ((2 * a0) * a1 + (2 * a2) * (19 * a4) + a3 * (19 * a3)) ((2 * a0) * a2 + a1 * a1 + (2 * a3) * (19 * a4)) ((2 * a0) * a3 + (2 * a1) * a2 + a4 * (19 * a4)) ((2 * a0) * a4 + (2 * a1) * a3 + a2 * a2)), .int .u64 (jn 2 (a0 * a0 + (2 * a1) * (19 * a4) + (2 * a2) * (19 * a3)) ((2 * a0) * a1 + (2 * a2) * (19 * a4) + a3 * (19 * a3)) ((2 * a0) * a2 + a1 * a1 + (2 * a3) * (19 * a4)) ((2 * a0) * a3 + (2 * a1) * a2 + a4 * (19 * a4)) ((2 * a0) * a4 + (2 * a1) * a3 + a2 * a2)), .int .u64 (jn 3 (a0 * a0 + (2 * a1) * (19 * a4) + (2 * a2) * (19 * a3)) ((2 * a0) * a1 + (2 * a2) * (19 * a4) + a3 * (19 * a3)) ((2 * a0) * a2 + a1 * a1 + (2 * a3) * (19 * a4)) ((2 * a0) * a3 + (2 * a1) * a2 + a4 * (19 * a4)) ((2 * a0) * a4 + (2 * a1) * a3 + a2 * a2)), .int .u64 (jn 4 (a0 * a0 + (2 * a1) * (19 * a4) + (2 * a2) * (19 * a3)) ((2 * a0) * a1 + (2 * a2) * (19 * a4) + a3 * (19 * a3)) ((2 * a0) * a2 + a1 * a1 + (2 * a3) * (19 * a4)) ((2 * a0) * a3 + (2 * a1) * a2 + a4 * (19 * a4)) ((2 * a0) * a4 + (2 * a1) * a3 + a2 * a2))] rfl rfl 26 _ rZ (by kernel_rfl) rfl (by kernel_rfl) ?_) | fail)
  exact bodyPost_ret (v := .agg #[.int .u64 (jn 0 (a0 * a0 + (2 * a1) * (19 * a4) + (2 * a2) * (19 * a3)) ((2 * a0) * a1 + (2 * a2) * (19 * a4) + a3 * (19 * a3)) ((2 * a0) * a2 + a1 * a1 + (2 * a3) * (19 * a4)) ((2 * a0) * a3 + (2 * a1) * a2 + a4 * (19 * a4)) ((2 * a0) * a4 + (2 * a1) * a3 + a2 * a2)), .int .u64 (jn 1 (a0 * a0 + (2 * a1) * (19 * a4) + (2 * a2) * (19 * a3)) ((2 * a0) * a1 + (2 * a2) * (19 * a4) + a3 * (19 * a3)) ((2 * a0) * a2 + a1 * a1 + (2 * a3) * (19 * a4)) ((2 * a0) * a3 + (2 * a1) * a2 + a4 * (19 * a4)) ((2 * a0) * a4 + (2 * a1) * a3 + a2 * a2)), .int .u64 (jn 2 (a0 * a0 + (2 * a1) * (19 * a4) + (2 * a2) * (19 * a3)) ((2 * a0) * a1 + (2 * a2) * (19 * a4) + a3 * (19 * a3)) ((2 * a0) * a2 + a1 * a1 + (2 * a3) * (19 * a4)) ((2 * a0) * a3 + (2 * a1) * a2 + a4 * (19 * a4)) ((2 * a0) * a4 + (2 * a1) * a3 + a2 * a2)), .int .u64 (jn 3 (a0 * a0 + (2 * a1) * (19 * a4) + (2 * a2) * (19 * a3)) ((2 * a0) * a1 + (2 * a2) * (19 * a4) + a3 * (19 * a3)) ((2 * a0) * a2 + a1 * a1 + (2 * a3) * (19 * a4)) ((2 * a0) * a3 + (2 * a1) * a2 + a4 * (19 * a4)) ((2 * a0) * a4 + (2 * a1) * a3 + a2 * a2)), .int .u64 (jn 4 (a0 * a0 + (2 * a1) * (19 * a4) + (2 * a2) * (19 * a3)) ((2 * a0) * a1 + (2 * a2) * (19 * a4) + a3 * (19 * a3)) ((2 * a0) * a2 + a1 * a1 + (2 * a3) * (19 * a4)) ((2 * a0) * a3 + (2 * a1) * a2 + a4 * (19 * a4)) ((2 * a0) * a4 + (2 * a1) * a3 + a2 * a2))]) (results_cell_row Tryd.results19 _ _ (w.heap.size + 1) _ #[.int .u64 (jn 0 (a0 * a0 + (2 * a1) * (19 * a4) + (2 * a2) * (19 * a3)) ((2 * a0) * a1 + (2 * a2) * (19 * a4) + a3 * (19 * a3)) ((2 * a0) * a2 + a1 * a1 + (2 * a3) * (19 * a4)) ((2 * a0) * a3 + (2 * a1) * a2 + a4 * (19 * a4)) ((2 * a0) * a4 + (2 * a1) * a3 + a2 * a2)), .int .u64 (jn 1 (a0 * a0 + (2 * a1) * (19 * a4) + (2 * a2) * (19 * a3)) ((2 * a0) * a1 + (2 * a2) * (19 * a4) + a3 * (19 * a3)) ((2 * a0) * a2 + a1 * a1 + (2 * a3) * (19 * a4)) ((2 * a0) * a3 + (2 * a1) * a2 + a4 * (19 * a4)) ((2 * a0) * a4 + (2 * a1) * a3 + a2 * a2)), .int .u64 (jn 2 (a0 * a0 + (2 * a1) * (19 * a4) + (2 * a2) * (19 * a3)) ((2 * a0) * a1 + (2 * a2) * (19 * a4) + a3 * (19 * a3)) ((2 * a0) * a2 + a1 * a1 + (2 * a3) * (19 * a4)) ((2 * a0) * a3 + (2 * a1) * a2 + a4 * (19 * a4)) ((2 * a0) * a4 + (2 * a1) * a3 + a2 * a2)), .int .u64 (jn 3 (a0 * a0 + (2 * a1) * (19 * a4) + (2 * a2) * (19 * a3)) ((2 * a0) * a1 + (2 * a2) * (19 * a4) + a3 * (19 * a3)) ((2 * a0) * a2 + a1 * a1 + (2 * a3) * (19 * a4)) ((2 * a0) * a3 + (2 * a1) * a2 + a4 * (19 * a4)) ((2 * a0) * a4 + (2 * a1) * a3 + a2 * a2)), .int .u64 (jn 4 (a0 * a0 + (2 * a1) * (19 * a4) + (2 * a2) * (19 * a3)) ((2 * a0) * a1 + (2 * a2) * (19 * a4) + a3 * (19 * a3)) ((2 * a0) * a2 + a1 * a1 + (2 * a3) * (19 * a4)) ((2 * a0) * a3 + (2 * a1) * a2 + a4 * (19 * a4)) ((2 * a0) * a4 + (2 * a1) * a3 + a2 * a2))] _ _ rfl (setRow_heap _ _ _ _ _ _ rZ) Tryd.underlying26 rfl (by kernel_rfl)) rfl ⟨rfl, below_setRow hbw (by omega) _⟩

end Go.Proofs.YtnohfbpmckhbbaaDoor


namespace Go.Proofs.YtnohfbpmckhbbaaDoor
set_option maxRecDepth 100000
open Go.RowKit Go.Sort
attribute [local go_sem] setCell_drewN alloc_drewN


theorem cstep (d c : Int) (l : 0 ≤ d) (u : d ≤ 1125899906842624) (lc : 0 ≤ c) (uc : c ≤ 17180200000) : ∃ e c' : Int, (d + c) / 65536 = c' ∧ (d + c) % 65536 = e ∧ Hid (e + 65536 * c' = d + c) ∧ 0 ≤ c' ∧ c' ≤ 17180200000 ∧ 0 ≤ e ∧ e < 65536 :=
  ⟨_, _, rfl, rfl, by unfold Hid; omega, by omega, by omega, by omega, by omega⟩
theorem cstep0 (d : Int) (l : 0 ≤ d) (u : d ≤ 1125899906842624) : ∃ e c' : Int, d / 65536 = c' ∧ d % 65536 = e ∧ Hid (e + 65536 * c' = d) ∧ 0 ≤ c' ∧ c' ≤ 17180200000 ∧ 0 ≤ e ∧ e < 65536 :=
  ⟨_, _, rfl, rfl, by unfold Hid; omega, by omega, by omega, by omega, by omega⟩

set_option maxHeartbeats 4000000 in
theorem carried_any (d0 d1 d2 d3 d4 d5 d6 d7 d8 d9 d10 d11 d12 d13 d14 d15 : Int) (l0 : 0 ≤ d0) (u0 : d0 ≤ 1125899906842624) (l1 : 0 ≤ d1) (u1 : d1 ≤ 1125899906842624) (l2 : 0 ≤ d2) (u2 : d2 ≤ 1125899906842624) (l3 : 0 ≤ d3) (u3 : d3 ≤ 1125899906842624) (l4 : 0 ≤ d4) (u4 : d4 ≤ 1125899906842624) (l5 : 0 ≤ d5) (u5 : d5 ≤ 1125899906842624) (l6 : 0 ≤ d6) (u6 : d6 ≤ 1125899906842624) (l7 : 0 ≤ d7) (u7 : d7 ≤ 1125899906842624) (l8 : 0 ≤ d8) (u8 : d8 ≤ 1125899906842624) (l9 : 0 ≤ d9) (u9 : d9 ≤ 1125899906842624) (l10 : 0 ≤ d10) (u10 : d10 ≤ 1125899906842624) (l11 : 0 ≤ d11) (u11 : d11 ≤ 1125899906842624) (l12 : 0 ≤ d12) (u12 : d12 ≤ 1125899906842624) (l13 : 0 ≤ d13) (u13 : d13 ≤ 1125899906842624) (l14 : 0 ≤ d14) (u14 : d14 ≤ 1125899906842624) (l15 : 0 ≤ d15) (u15 : d15 ≤ 1125899906842624) (w : World) :
    Calls Tryd.prog 56 #[.agg #[.int .u64 d0, .int .u64 d1, .int .u64 d2, .int .u64 d3, .int .u64 d4, .int .u64 d5, .int .u64 d6, .int .u64 d7, .int .u64 d8, .int .u64 d9, .int .u64 d10, .int .u64 d11, .int .u64 d12, .int .u64 d13, .int .u64 d14, .int .u64 d15]] w fun e w' => ∃ e0 e1 e2 e3 e4 e5 e6 e7 e8 e9 e10 e11 e12 e13 e14 e15 c : Int, e = .returned (.tuple #[.agg #[.int .u64 e0, .int .u64 e1, .int .u64 e2, .int .u64 e3, .int .u64 e4, .int .u64 e5, .int .u64 e6, .int .u64 e7, .int .u64 e8, .int .u64 e9, .int .u64 e10, .int .u64 e11, .int .u64 e12, .int .u64 e13, .int .u64 e14, .int .u64 e15], .int .u64 c]) ∧ Below w.heap.size w w' ∧ ((0 ≤ e0 ∧ e0 < 65536) ∧ (0 ≤ e1 ∧ e1 < 65536) ∧ (0 ≤ e2 ∧ e2 < 65536) ∧ (0 ≤ e3 ∧ e3 < 65536) ∧ (0 ≤ e4 ∧ e4 < 65536) ∧ (0 ≤ e5 ∧ e5 < 65536) ∧ (0 ≤ e6 ∧ e6 < 65536) ∧ (0 ≤ e7 ∧ e7 < 65536) ∧ (0 ≤ e8 ∧ e8 < 65536) ∧ (0 ≤ e9 ∧ e9 < 65536) ∧ (0 ≤ e10 ∧ e10 < 65536) ∧ (0 ≤ e11 ∧ e11 < 65536) ∧ (0 ≤ e12 ∧ e12 < 65536) ∧ (0 ≤ e13 ∧ e13 < 65536) ∧ (0 ≤ e14 ∧ e14 < 65536) ∧ (0 ≤ e15 ∧ e15 < 65536) ∧ 0 ≤ c ∧ c ≤ 17180200000) ∧ v16 e0 e1 e2 e3 e4 e5 e6 e7 e8 e9 e10 e11 e12 e13 e14 e15 + 115792089237316195423570985008687907853269984665640564039457584007913129639936 * c = v16 d0 d1 d2 d3 d4 d5 d6 d7 d8 d9 d10 d11 d12 d13 d14 d15 := by
  go_enter Tryd.func56, Tryd.ntmps56
  go_wp2
  refine wp_loop_rounds 17 ?_
  rw [rounds_succ]
  go_wp2
  obtain ⟨e0, c0, hq, hr, H0, lc0, uc0, le0, ue0⟩ := cstep0 d0 l0 u0
  rw [hq, hr]; clear hq hr
  rw [rounds_succ]
  go_wp2
  obtain ⟨e1, c1, hq, hr, H1, lc1, uc1, le1, ue1⟩ := cstep d1 c0 l1 u1 lc0 uc0
  rw [hq, hr]; clear hq hr
  rw [rounds_succ]
  go_wp2
  obtain ⟨e2, c2, hq, hr, H2, lc2, uc2, le2, ue2⟩ := cstep d2 c1 l2 u2 lc1 uc1
  rw [hq, hr]; clear hq hr
  rw [rounds_succ]
  go_wp2
  obtain ⟨e3, c3, hq, hr, H3, lc3, uc3, le3, ue3⟩ := cstep d3 c2 l3 u3 lc2 uc2
  rw [hq, hr]; clear hq hr
  rw [rounds_succ]
  go_wp2
  obtain ⟨e4, c4, hq, hr, H4, lc4, uc4, le4, ue4⟩ := cstep d4 c3 l4 u4 lc3 uc3
  rw [hq, hr]; clear hq hr
  rw [rounds_succ]
  go_wp2
  obtain ⟨e5, c5, hq, hr, H5, lc5, uc5, le5, ue5⟩ := cstep d5 c4 l5 u5 lc4 uc4
  rw [hq, hr]; clear hq hr
  rw [rounds_succ]
  go_wp2
  obtain ⟨e6, c6, hq, hr, H6, lc6, uc6, le6, ue6⟩ := cstep d6 c5 l6 u6 lc5 uc5
  rw [hq, hr]; clear hq hr
  rw [rounds_succ]
  go_wp2
  obtain ⟨e7, c7, hq, hr, H7, lc7, uc7, le7, ue7⟩ := cstep d7 c6 l7 u7 lc6 uc6
  rw [hq, hr]; clear hq hr
  rw [rounds_succ]
  go_wp2
  obtain ⟨e8, c8, hq, hr, H8, lc8, uc8, le8, ue8⟩ := cstep d8 c7 l8 u8 lc7 uc7
  rw [hq, hr]; clear hq hr
  rw [rounds_succ]
  go_wp2
  obtain ⟨e9, c9, hq, hr, H9, lc9, uc9, le9, ue9⟩ := cstep d9 c8 l9 u9 lc8 uc8
  rw [hq, hr]; clear hq hr
  rw [rounds_succ]
  go_wp2
  obtain ⟨e10, c10, hq, hr, H10, lc10, uc10, le10, ue10⟩ := cstep d10 c9 l10 u10 lc9 uc9
  rw [hq, hr]; clear hq hr
  rw [rounds_succ]
  go_wp2
  obtain ⟨e11, c11, hq, hr, H11, lc11, uc11, le11, ue11⟩ := cstep d11 c10 l11 u11 lc10 uc10
  rw [hq, hr]; clear hq hr
  rw [rounds_succ]
  go_wp2
  obtain ⟨e12, c12, hq, hr, H12, lc12, uc12, le12, ue12⟩ := cstep d12 c11 l12 u12 lc11 uc11
  rw [hq, hr]; clear hq hr
  rw [rounds_succ]
  go_wp2
  obtain ⟨e13, c13, hq, hr, H13, lc13, uc13, le13, ue13⟩ := cstep d13 c12 l13 u13 lc12 uc12
  rw [hq, hr]; clear hq hr
  rw [rounds_succ]
  go_wp2
  obtain ⟨e14, c14, hq, hr, H14, lc14, uc14, le14, ue14⟩ := cstep d14 c13 l14 u14 lc13 uc13
  rw [hq, hr]; clear hq hr
  rw [rounds_succ]
  go_wp2
  obtain ⟨e15, c15, hq, hr, H15, lc15, uc15, le15, ue15⟩ := cstep d15 c14 l15 u15 lc14 uc14
  rw [hq, hr]; clear hq hr
  rw [rounds_succ]
  go_wp2_with (first | (refine wpList_load_row rfl 28 _ rfl w.heap.size rfl 28 _ (0, 0) _ (heap_alloc2_old _ _ _) Tryd.underlying28 rfl (by kernel_rfl) ?_) | (refine wpList_store_row rfl 28 _ _ rfl (w.heap.size + 1) _ rfl rfl 28 _ (heap_alloc2_new _ _ _) (by kernel_rfl) rfl (by kernel_rfl) ?_; rw [setRow_alloc_new _ _ _ _ _ _ (by simp)]))
  refine bodyPost_ret (v := .tuple #[.agg #[.int .u64 e0, .int .u64 e1, .int .u64 e2, .int .u64 e3, .int .u64 e4, .int .u64 e5, .int .u64 e6, .int .u64 e7, .int .u64 e8, .int .u64 e9, .int .u64 e10, .int .u64 e11, .int .u64 e12, .int .u64 e13, .int .u64 e14, .int .u64 e15], .int .u64 c15]) (results_row_tmp Tryd.results56 _ _ (w.heap.size + 1) _ _ _ _ _ rfl rfl (heap_alloc2_new _ _ _) Tryd.underlying28 rfl (by kernel_rfl)) rfl ⟨e0, e1, e2, e3, e4, e5, e6, e7, e8, e9, e10, e11, e12, e13, e14, e15, c15, rfl, ((Below.refl _ _).alloc (Nat.le_refl _) _).alloc (by simp) _, ⟨⟨le0, ue0⟩, ⟨le1, ue1⟩, ⟨le2, ue2⟩, ⟨le3, ue3⟩, ⟨le4, ue4⟩, ⟨le5, ue5⟩, ⟨le6, ue6⟩, ⟨le7, ue7⟩, ⟨le8, ue8⟩, ⟨le9, ue9⟩, ⟨le10, ue10⟩, ⟨le11, ue11⟩, ⟨le12, ue12⟩, ⟨le13, ue13⟩, ⟨le14, ue14⟩, ⟨le15, ue15⟩, lc15, uc15⟩, ?_⟩
  have h0 := H0.out; have h1 := H1.out; have h2 := H2.out; have h3 := H3.out; have h4 := H4.out; have h5 := H5.out; have h6 := H6.out; have h7 := H7.out; have h8 := H8.out; have h9 := H9.out; have h10 := H10.out; have h11 := H11.out; have h12 := H12.out; have h13 := H13.out; have h14 := H14.out; have h15 := H15.out
  clear l0 u0 lc0 uc0 le0 ue0 l1 u1 lc1 uc1 le1 ue1 l2 u2 lc2 uc2 le2 ue2 l3 u3 lc3 uc3 le3 ue3 l4 u4 lc4 uc4 le4 ue4 l5 u5 lc5 uc5 le5 ue5 l6 u6 lc6 uc6 le6 ue6 l7 u7 lc7 uc7 le7 ue7 l8 u8 lc8 uc8 le8 ue8 l9 u9 lc9 uc9 le9 ue9 l10 u10 lc10 uc10 le10 ue10 l11 u11 lc11 uc11 le11 ue11 l12 u12 lc12 uc12 le12 ue12 l13 u13 lc13 uc13 le13 ue13 l14 u14 lc14 uc14 le14 ue14 l15 u15 lc15 uc15 le15 ue15
  simp only [v16, valL]
  omega

theorem prime_zero (w : World) : Calls Tryd.prog 62 #[.int .i64 0] w fun e w' => e = .returned (.int .u64 65517) ∧ w' = w := by
  go_enter Tryd.func62, Tryd.ntmps62
  go_wp2
  go_ret
  exact ⟨rfl, rfl⟩
theorem prime_last (w : World) : Calls Tryd.prog 62 #[.int .i64 15] w fun e w' => e = .returned (.int .u64 32767) ∧ w' = w := by
  go_enter Tryd.func62, Tryd.ntmps62
  go_wp2
  go_ret
  exact ⟨rfl, rfl⟩
theorem prime_mid (i : Int) (h0 : (i == 0) = false) (h1 : (i == 15) = false) (w : World) : Calls Tryd.prog 62 #[.int .i64 i] w fun e w' => e = .returned (.int .u64 65535) ∧ w' = w := by
  go_enter Tryd.func62, Tryd.ntmps62
  go_wp2
  go_ret
  exact ⟨rfl, rfl⟩

set_option maxHeartbeats 4000000 in
theorem allPrime_any (w : World) : Calls Tryd.prog 53 #[] w fun e w' => e = .returned (.agg #[.int .u64 65517, .int .u64 65535, .int .u64 65535, .int .u64 65535, .int .u64 65535, .int .u64 65535, .int .u64 65535, .int .u64 65535, .int .u64 65535, .int .u64 65535, .int .u64 65535, .int .u64 65535, .int .u64 65535, .int .u64 65535, .int .u64 65535, .int .u64 32767]) ∧ Below w.heap.size w w' := by
  go_enter Tryd.func53, Tryd.ntmps53
  go_wp2
  refine wp_loop_rounds 17 ?_
  rw [rounds_succ]; go_wp2
  rw [rounds_succ]; go_wp2
  rw [rounds_succ]; go_wp2
  rw [rounds_succ]; go_wp2
  rw [rounds_succ]; go_wp2
  rw [rounds_succ]; go_wp2
  rw [rounds_succ]; go_wp2
  rw [rounds_succ]; go_wp2
  rw [rounds_succ]; go_wp2
  rw [rounds_succ]; go_wp2
  rw [rounds_succ]; go_wp2
  rw [rounds_succ]; go_wp2
  rw [rounds_succ]; go_wp2
  rw [rounds_succ]; go_wp2
  rw [rounds_succ]; go_wp2
  rw [rounds_succ]; go_wp2
  rw [rounds_succ]
  go_wp2_with (first | (refine wpList_load_row rfl 28 _ rfl (w.heap.size + 1) rfl 28 _ (0, 0) _ (heap_alloc2_new _ _ _) Tryd.underlying28 rfl (by kernel_rfl) ?_) | (refine wpList_store_row rfl 28 _ _ rfl w.heap.size _ rfl rfl 28 _ (heap_alloc2_old _ _ _) (by kernel_rfl) rfl (by kernel_rfl) ?_; rw [setRow_alloc_old _ _ _ _ (by simp), setRow_alloc_new _ _ _ _ _ _ (by simp)]))
  refine bodyPost_ret (v := .agg #[.int .u64 65517, .int .u64 65535, .int .u64 65535, .int .u64 65535, .int .u64 65535, .int .u64 65535, .int .u64 65535, .int .u64 65535, .int .u64 65535, .int .u64 65535, .int .u64 65535, .int .u64 65535, .int .u64 65535, .int .u64 65535, .int .u64 65535, .int .u64 32767]) (results_cell_row Tryd.results53 _ _ w.heap.size _ _ _ _ rfl (heap_alloc2_old _ _ _) Tryd.underlying28 rfl (by kernel_rfl)) rfl ⟨rfl, ((Below.refl _ _).alloc (Nat.le_refl _) _).alloc (by simp) _⟩


set_option maxHeartbeats 4000000 in
theorem atLeast_any (d0 d1 d2 d3 d4 d5 d6 d7 d8 d9 d10 d11 d12 d13 d14 d15 : Int) (l0 : 0 ≤ d0) (u0 : d0 < 65536) (l1 : 0 ≤ d1) (u1 : d1 < 65536) (l2 : 0 ≤ d2) (u2 : d2 < 65536) (l3 : 0 ≤ d3) (u3 : d3 < 65536) (l4 : 0 ≤ d4) (u4 : d4 < 65536) (l5 : 0 ≤ d5) (u5 : d5 < 65536) (l6 : 0 ≤ d6) (u6 : d6 < 65536) (l7 : 0 ≤ d7) (u7 : d7 < 65536) (l8 : 0 ≤ d8) (u8 : d8 < 65536) (l9 : 0 ≤ d9) (u9 : d9 < 65536) (l10 : 0 ≤ d10) (u10 : d10 < 65536) (l11 : 0 ≤ d11) (u11 : d11 < 65536) (l12 : 0 ≤ d12) (u12 : d12 < 65536) (l13 : 0 ≤ d13) (u13 : d13 < 65536) (l14 : 0 ≤ d14) (u14 : d14 < 65536) (l15 : 0 ≤ d15) (u15 : d15 < 65536) (w : World) :
    Calls Tryd.prog 57 #[.agg #[.int .u64 d0, .int .u64 d1, .int .u64 d2, .int .u64 d3, .int .u64 d4, .int .u64 d5, .int .u64 d6, .int .u64 d7, .int .u64 d8, .int .u64 d9, .int .u64 d10, .int .u64 d11, .int .u64 d12, .int .u64 d13, .int .u64 d14, .int .u64 d15]] w fun e w' => e = .returned (.bool (geP (v16 d0 d1 d2 d3 d4 d5 d6 d7 d8 d9 d10 d11 d12 d13 d14 d15))) ∧ Below w.heap.size w w' := by
  go_enter Tryd.func57, Tryd.ntmps57
  go_wp2
  refine wp_loop_rounds 17 ?_
  rw [rounds_succ]
  go_wp2
  rcases Decidable.em (d15 = 32767) with rfl | h15
  rotate_left
  · have hb : (d15 != 32767) = true := by simp [h15]
    go_quiet ((exact (prime_last _).mono fun _ _ h => ⟨h.1, _, h.2⟩))
    go_wp2
    go_quiet ((exact (prime_last _).mono fun _ _ h => ⟨h.1, _, h.2⟩))
    go_wp2
    go_ret
    exact ⟨ret_bool (by unfold geP v16; simp only [valL]; exact decide_eq_decide.2 (by constructor <;> (intro; omega))), by repeat (first | exact (Below.refl _ _).alloc (Nat.le_refl _) _ | refine below_drN ?_ _)⟩
  go_quiet ((exact (prime_last _).mono fun _ _ h => ⟨h.1, _, h.2⟩))
  go_wp2
  rw [rounds_succ]
  go_wp2
  rcases Decidable.em (d14 = 65535) with rfl | h14
  rotate_left
  · have hb : (d14 != 65535) = true := by simp [h14]
    go_quiet ((exact (prime_mid _ rfl rfl _).mono fun _ _ h => ⟨h.1, _, h.2⟩))
    go_wp2
    go_quiet ((exact (prime_mid _ rfl rfl _).mono fun _ _ h => ⟨h.1, _, h.2⟩))
    go_wp2
    go_ret
    exact ⟨ret_bool (by unfold geP v16; simp only [valL]; exact decide_eq_decide.2 (by constructor <;> (intro; omega))), by repeat (first | exact (Below.refl _ _).alloc (Nat.le_refl _) _ | refine below_drN ?_ _)⟩
  go_quiet ((exact (prime_mid _ rfl rfl _).mono fun _ _ h => ⟨h.1, _, h.2⟩))
  go_wp2
  rw [rounds_succ]
  go_wp2
  rcases Decidable.em (d13 = 65535) with rfl | h13
  rotate_left
  · have hb : (d13 != 65535) = true := by simp [h13]
    go_quiet ((exact (prime_mid _ rfl rfl _).mono fun _ _ h => ⟨h.1, _, h.2⟩))
    go_wp2
    go_quiet ((exact (prime_mid _ rfl rfl _).mono fun _ _ h => ⟨h.1, _, h.2⟩))
    go_wp2
    go_ret
    exact ⟨ret_bool (by unfold geP v16; simp only [valL]; exact decide_eq_decide.2 (by constructor <;> (intro; omega))), by repeat (first | exact (Below.refl _ _).alloc (Nat.le_refl _) _ | refine below_drN ?_ _)⟩
  go_quiet ((exact (prime_mid _ rfl rfl _).mono fun _ _ h => ⟨h.1, _, h.2⟩))
  go_wp2
  rw [rounds_succ]
  go_wp2
  rcases Decidable.em (d12 = 65535) with rfl | h12
  rotate_left
  · have hb : (d12 != 65535) = true := by simp [h12]
    go_quiet ((exact (prime_mid _ rfl rfl _).mono fun _ _ h => ⟨h.1, _, h.2⟩))
    go_wp2
    go_quiet ((exact (prime_mid _ rfl rfl _).mono fun _ _ h => ⟨h.1, _, h.2⟩))
    go_wp2
    go_ret
    exact ⟨ret_bool (by unfold geP v16; simp only [valL]; exact decide_eq_decide.2 (by constructor <;> (intro; omega))), by repeat (first | exact (Below.refl _ _).alloc (Nat.le_refl _) _ | refine below_drN ?_ _)⟩
  go_quiet ((exact (prime_mid _ rfl rfl _).mono fun _ _ h => ⟨h.1, _, h.2⟩))
  go_wp2
  rw [rounds_succ]
  go_wp2
  rcases Decidable.em (d11 = 65535) with rfl | h11
  rotate_left
  · have hb : (d11 != 65535) = true := by simp [h11]
    go_quiet ((exact (prime_mid _ rfl rfl _).mono fun _ _ h => ⟨h.1, _, h.2⟩))
    go_wp2
    go_quiet ((exact (prime_mid _ rfl rfl _).mono fun _ _ h => ⟨h.1, _, h.2⟩))
    go_wp2
    go_ret
    exact ⟨ret_bool (by unfold geP v16; simp only [valL]; exact decide_eq_decide.2 (by constructor <;> (intro; omega))), by repeat (first | exact (Below.refl _ _).alloc (Nat.le_refl _) _ | refine below_drN ?_ _)⟩
  go_quiet ((exact (prime_mid _ rfl rfl _).mono fun _ _ h => ⟨h.1, _, h.2⟩))
  go_wp2
  rw [rounds_succ]
  go_wp2
  rcases Decidable.em (d10 = 65535) with rfl | h10
  rotate_left
  · have hb : (d10 != 65535) = true := by simp [h10]
    go_quiet ((exact (prime_mid _ rfl rfl _).mono fun _ _ h => ⟨h.1, _, h.2⟩))
    go_wp2
    go_quiet ((exact (prime_mid _ rfl rfl _).mono fun _ _ h => ⟨h.1, _, h.2⟩))
    go_wp2
    go_ret
    exact ⟨ret_bool (by unfold geP v16; simp only [valL]; exact decide_eq_decide.2 (by constructor <;> (intro; omega))), by repeat (first | exact (Below.refl _ _).alloc (Nat.le_refl _) _ | refine below_drN ?_ _)⟩
  go_quiet ((exact (prime_mid _ rfl rfl _).mono fun _ _ h => ⟨h.1, _, h.2⟩))
  go_wp2
  rw [rounds_succ]
  go_wp2
  rcases Decidable.em (d9 = 65535) with rfl | h9
  rotate_left
  · have hb : (d9 != 65535) = true := by simp [h9]
    go_quiet ((exact (prime_mid _ rfl rfl _).mono fun _ _ h => ⟨h.1, _, h.2⟩))
    go_wp2
    go_quiet ((exact (prime_mid _ rfl rfl _).mono fun _ _ h => ⟨h.1, _, h.2⟩))
    go_wp2
    go_ret
    exact ⟨ret_bool (by unfold geP v16; simp only [valL]; exact decide_eq_decide.2 (by constructor <;> (intro; omega))), by repeat (first | exact (Below.refl _ _).alloc (Nat.le_refl _) _ | refine below_drN ?_ _)⟩
  go_quiet ((exact (prime_mid _ rfl rfl _).mono fun _ _ h => ⟨h.1, _, h.2⟩))
  go_wp2
  rw [rounds_succ]
  go_wp2
  rcases Decidable.em (d8 = 65535) with rfl | h8
  rotate_left
  · have hb : (d8 != 65535) = true := by simp [h8]
    go_quiet ((exact (prime_mid _ rfl rfl _).mono fun _ _ h => ⟨h.1, _, h.2⟩))
    go_wp2
    go_quiet ((exact (prime_mid _ rfl rfl _).mono fun _ _ h => ⟨h.1, _, h.2⟩))
    go_wp2
    go_ret
    exact ⟨ret_bool (by unfold geP v16; simp only [valL]; exact decide_eq_decide.2 (by constructor <;> (intro; omega))), by repeat (first | exact (Below.refl _ _).alloc (Nat.le_refl _) _ | refine below_drN ?_ _)⟩
  go_quiet ((exact (prime_mid _ rfl rfl _).mono fun _ _ h => ⟨h.1, _, h.2⟩))
  go_wp2
  rw [rounds_succ]
  go_wp2
  rcases Decidable.em (d7 = 65535) with rfl | h7
  rotate_left
  · have hb : (d7 != 65535) = true := by simp [h7]
    go_quiet ((exact (prime_mid _ rfl rfl _).mono fun _ _ h => ⟨h.1, _, h.2⟩))
    go_wp2
    go_quiet ((exact (prime_mid _ rfl rfl _).mono fun _ _ h => ⟨h.1, _, h.2⟩))
    go_wp2
    go_ret
    exact ⟨ret_bool (by unfold geP v16; simp only [valL]; exact decide_eq_decide.2 (by constructor <;> (intro; omega))), by repeat (first | exact (Below.refl _ _).alloc (Nat.le_refl _) _ | refine below_drN ?_ _)⟩
  go_quiet ((exact (prime_mid _ rfl rfl _).mono fun _ _ h => ⟨h.1, _, h.2⟩))
  go_wp2
  rw [rounds_succ]
  go_wp2
  rcases Decidable.em (d6 = 65535) with rfl | h6
  rotate_left
  · have hb : (d6 != 65535) = true := by simp [h6]
    go_quiet ((exact (prime_mid _ rfl rfl _).mono fun _ _ h => ⟨h.1, _, h.2⟩))
    go_wp2
    go_quiet ((exact (prime_mid _ rfl rfl _).mono fun _ _ h => ⟨h.1, _, h.2⟩))
    go_wp2
    go_ret
    exact ⟨ret_bool (by unfold geP v16; simp only [valL]; exact decide_eq_decide.2 (by constructor <;> (intro; omega))), by repeat (first | exact (Below.refl _ _).alloc (Nat.le_refl _) _ | refine below_drN ?_ _)⟩
  go_quiet ((exact (prime_mid _ rfl rfl _).mono fun _ _ h => ⟨h.1, _, h.2⟩))
  go_wp2
  rw [rounds_succ]
  go_wp2
  rcases Decidable.em (d5 = 65535) with rfl | h5
  rotate_left
  · have hb : (d5 != 65535) = true := by simp [h5]
    go_quiet ((exact (prime_mid _ rfl rfl _).mono fun _ _ h => ⟨h.1, _, h.2⟩))
    go_wp2
    go_quiet ((exact (prime_mid _ rfl rfl _).mono fun _ _ h => ⟨h.1, _, h.2⟩))
    go_wp2
    go_ret
    exact ⟨ret_bool (by unfold geP v16; simp only [valL]; exact decide_eq_decide.2 (by constructor <;> (intro; omega))), by repeat (first | exact (Below.refl _ _).alloc (Nat.le_refl _) _ | refine below_drN ?_ _)⟩
  go_quiet ((exact (prime_mid _ rfl rfl _).mono fun _ _ h => ⟨h.1, _, h.2⟩))
  go_wp2
  rw [rounds_succ]
  go_wp2
  rcases Decidable.em (d4 = 65535) with rfl | h4
  rotate_left
  · have hb : (d4 != 65535) = true := by simp [h4]
    go_quiet ((exact (prime_mid _ rfl rfl _).mono fun _ _ h => ⟨h.1, _, h.2⟩))
    go_wp2
    go_quiet ((exact (prime_mid _ rfl rfl _).mono fun _ _ h => ⟨h.1, _, h.2⟩))
    go_wp2
    go_ret
    exact ⟨ret_bool (by unfold geP v16; simp only [valL]; exact decide_eq_decide.2 (by constructor <;> (intro; omega))), by repeat (first | exact (Below.refl _ _).alloc (Nat.le_refl _) _ | refine below_drN ?_ _)⟩
  go_quiet ((exact (prime_mid _ rfl rfl _).mono fun _ _ h => ⟨h.1, _, h.2⟩))
  go_wp2
  rw [rounds_succ]
  go_wp2
  rcases Decidable.em (d3 = 65535) with rfl | h3
  rotate_left
  · have hb : (d3 != 65535) = true := by simp [h3]
    go_quiet ((exact (prime_mid _ rfl rfl _).mono fun _ _ h => ⟨h.1, _, h.2⟩))
    go_wp2
    go_quiet ((exact (prime_mid _ rfl rfl _).mono fun _ _ h => ⟨h.1, _, h.2⟩))
    go_wp2
    go_ret
    exact ⟨ret_bool (by unfold geP v16; simp only [valL]; exact decide_eq_decide.2 (by constructor <;> (intro; omega))), by repeat (first | exact (Below.refl _ _).alloc (Nat.le_refl _) _ | refine below_drN ?_ _)⟩
  go_quiet ((exact (prime_mid _ rfl rfl _).mono fun _ _ h => ⟨h.1, _, h.2⟩))
  go_wp2
  rw [rounds_succ]
  go_wp2
  rcases Decidable.em (d2 = 65535) with rfl | h2
  rotate_left
  · have hb : (d2 != 65535) = true := by simp [h2]
    go_quiet ((exact (prime_mid _ rfl rfl _).mono fun _ _ h => ⟨h.1, _, h.2⟩))
    go_wp2
    go_quiet ((exact (prime_mid _ rfl rfl _).mono fun _ _ h => ⟨h.1, _, h.2⟩))
    go_wp2
    go_ret
    exact ⟨ret_bool (by unfold geP v16; simp only [valL]; exact decide_eq_decide.2 (by constructor <;> (intro; omega))), by repeat (first | exact (Below.refl _ _).alloc (Nat.le_refl _) _ | refine below_drN ?_ _)⟩
  go_quiet ((exact (prime_mid _ rfl rfl _).mono fun _ _ h => ⟨h.1, _, h.2⟩))
  go_wp2
  rw [rounds_succ]
  go_wp2
  rcases Decidable.em (d1 = 65535) with rfl | h1
  rotate_left
  · have hb : (d1 != 65535) = true := by simp [h1]
    go_quiet ((exact (prime_mid _ rfl rfl _).mono fun _ _ h => ⟨h.1, _, h.2⟩))
    go_wp2
    go_quiet ((exact (prime_mid _ rfl rfl _).mono fun _ _ h => ⟨h.1, _, h.2⟩))
    go_wp2
    go_ret
    exact ⟨ret_bool (by unfold geP v16; simp only [valL]; exact decide_eq_decide.2 (by constructor <;> (intro; omega))), by repeat (first | exact (Below.refl _ _).alloc (Nat.le_refl _) _ | refine below_drN ?_ _)⟩
  go_quiet ((exact (prime_mid _ rfl rfl _).mono fun _ _ h => ⟨h.1, _, h.2⟩))
  go_wp2
  rw [rounds_succ]
  go_wp2
  rcases Decidable.em (d0 = 65517) with rfl | h0
  rotate_left
  · have hb : (d0 != 65517) = true := by simp [h0]
    go_quiet ((exact (prime_zero _).mono fun _ _ h => ⟨h.1, _, h.2⟩))
    go_wp2
    go_quiet ((exact (prime_zero _).mono fun _ _ h => ⟨h.1, _, h.2⟩))
    go_wp2
    go_ret
    exact ⟨ret_bool (by unfold geP v16; simp only [valL]; exact decide_eq_decide.2 (by constructor <;> (intro; omega))), by repeat (first | exact (Below.refl _ _).alloc (Nat.le_refl _) _ | refine below_drN ?_ _)⟩
  go_quiet ((exact (prime_zero _).mono fun _ _ h => ⟨h.1, _, h.2⟩))
  go_wp2
  rw [rounds_succ]
  go_wp2
  go_ret
  exact ⟨ret_bool (by unfold geP v16; simp only [valL]; exact (decide_eq_true (by omega)).symm), by repeat (first | exact (Below.refl _ _).alloc (Nat.le_refl _) _ | refine below_drN ?_ _)⟩

end Go.Proofs.YtnohfbpmckhbbaaDoor

