import Derived.Test.YtgbkbcgjagcgbaaGreatDoorProg
import Derived.WalkKit
import Derived.WalkSpells
import Derived.WalkLawsBesides
import Derived.Lib.QuietBelow
import Derived.BigQuiet
import Derived.Test.YtgbkbcgjagcgbaaGreatDoorKa
import Derived.Test.YtgbkbcgjagcgbaaGreatDoorMa
import Derived.Test.YtgbkbcgjagcgbaaGreatDoorRab
import Derived.Test.YtgbkbcgjagcgbaaGreatDoorRc
import Derived.Test.YtgbkbcgjagcgbaaGreatDoorAbe
import Derived.Test.YtgbkbcgjagcgbaaGreatDoorRff
namespace Go.Proofs.YtgbkbcgjagcgbaaGreatDoor.Lo
set_option maxRecDepth 100000
open Go.RowKit Go.Sort
attribute [local go_sem] setCell_drewN alloc_drewN
set_option maxHeartbeats 4000000 in
theorem refFrom_any (b0 b1 b2 b3 b4 b5 b6 b7 b8 b9 b10 b11 b12 b13 b14 b15 b16 b17 b18 b19 b20 b21 b22 b23 b24 b25 b26 b27 b28 b29 b30 b31 : Int) (lo0 : 0 ≤ b0) (hi0 : b0 < 256) (lo1 : 0 ≤ b1) (hi1 : b1 < 256) (lo2 : 0 ≤ b2) (hi2 : b2 < 256) (lo3 : 0 ≤ b3) (hi3 : b3 < 256) (lo4 : 0 ≤ b4) (hi4 : b4 < 256) (lo5 : 0 ≤ b5) (hi5 : b5 < 256) (lo6 : 0 ≤ b6) (hi6 : b6 < 256) (lo7 : 0 ≤ b7) (hi7 : b7 < 256) (lo8 : 0 ≤ b8) (hi8 : b8 < 256) (lo9 : 0 ≤ b9) (hi9 : b9 < 256) (lo10 : 0 ≤ b10) (hi10 : b10 < 256) (lo11 : 0 ≤ b11) (hi11 : b11 < 256) (lo12 : 0 ≤ b12) (hi12 : b12 < 256) (lo13 : 0 ≤ b13) (hi13 : b13 < 256) (lo14 : 0 ≤ b14) (hi14 : b14 < 256) (lo15 : 0 ≤ b15) (hi15 : b15 < 256) (lo16 : 0 ≤ b16) (hi16 : b16 < 256) (lo17 : 0 ≤ b17) (hi17 : b17 < 256) (lo18 : 0 ≤ b18) (hi18 : b18 < 256) (lo19 : 0 ≤ b19) (hi19 : b19 < 256) (lo20 : 0 ≤ b20) (hi20 : b20 < 256) (lo21 : 0 ≤ b21) (hi21 : b21 < 256) (lo22 : 0 ≤ b22) (hi22 : b22 < 256) (lo23 : 0 ≤ b23) (hi23 : b23 < 256) (lo24 : 0 ≤ b24) (hi24 : b24 < 256) (lo25 : 0 ≤ b25) (hi25 : b25 < 256) (lo26 : 0 ≤ b26) (hi26 : b26 < 256) (lo27 : 0 ≤ b27) (hi27 : b27 < 256) (lo28 : 0 ≤ b28) (hi28 : b28 < 256) (lo29 : 0 ≤ b29) (hi29 : b29 < 256) (lo30 : 0 ≤ b30) (hi30 : b30 < 256) (lo31 : 0 ≤ b31) (hi31 : b31 < 256) (w : World) :
   Calls Tryz.prog 53 #[.agg #[.int .u8 b0, .int .u8 b1, .int .u8 b2, .int .u8 b3, .int .u8 b4, .int .u8 b5, .int .u8 b6, .int .u8 b7, .int .u8 b8, .int .u8 b9, .int .u8 b10, .int .u8 b11, .int .u8 b12, .int .u8 b13, .int .u8 b14, .int .u8 b15, .int .u8 b16, .int .u8 b17, .int .u8 b18, .int .u8 b19, .int .u8 b20, .int .u8 b21, .int .u8 b22, .int .u8 b23, .int .u8 b24, .int .u8 b25, .int .u8 b26, .int .u8 b27, .int .u8 b28, .int .u8 b29, .int .u8 b30, .int .u8 b31]] w fun e w' => e = .returned (.agg #[.int .u64 (dg (kv b0 b1 b2 b3 b4 b5 b6 b7 b8 b9 b10 b11 b12 b13 b14 b15 b16 b17 b18 b19 b20 b21 b22 b23 b24 b25 b26 b27 b28 b29 b30 b31 % 57896044618658097711785492504343953926634992332820282019728792003956564819968 % prm) 0), .int .u64 (dg (kv b0 b1 b2 b3 b4 b5 b6 b7 b8 b9 b10 b11 b12 b13 b14 b15 b16 b17 b18 b19 b20 b21 b22 b23 b24 b25 b26 b27 b28 b29 b30 b31 % 57896044618658097711785492504343953926634992332820282019728792003956564819968 % prm) 1), .int .u64 (dg (kv b0 b1 b2 b3 b4 b5 b6 b7 b8 b9 b10 b11 b12 b13 b14 b15 b16 b17 b18 b19 b20 b21 b22 b23 b24 b25 b26 b27 b28 b29 b30 b31 % 57896044618658097711785492504343953926634992332820282019728792003956564819968 % prm) 2), .int .u64 (dg (kv b0 b1 b2 b3 b4 b5 b6 b7 b8 b9 b10 b11 b12 b13 b14 b15 b16 b17 b18 b19 b20 b21 b22 b23 b24 b25 b26 b27 b28 b29 b30 b31 % 57896044618658097711785492504343953926634992332820282019728792003956564819968 % prm) 3), .int .u64 (dg (kv b0 b1 b2 b3 b4 b5 b6 b7 b8 b9 b10 b11 b12 b13 b14 b15 b16 b17 b18 b19 b20 b21 b22 b23 b24 b25 b26 b27 b28 b29 b30 b31 % 57896044618658097711785492504343953926634992332820282019728792003956564819968 % prm) 4), .int .u64 (dg (kv b0 b1 b2 b3 b4 b5 b6 b7 b8 b9 b10 b11 b12 b13 b14 b15 b16 b17 b18 b19 b20 b21 b22 b23 b24 b25 b26 b27 b28 b29 b30 b31 % 57896044618658097711785492504343953926634992332820282019728792003956564819968 % prm) 5), .int .u64 (dg (kv b0 b1 b2 b3 b4 b5 b6 b7 b8 b9 b10 b11 b12 b13 b14 b15 b16 b17 b18 b19 b20 b21 b22 b23 b24 b25 b26 b27 b28 b29 b30 b31 % 57896044618658097711785492504343953926634992332820282019728792003956564819968 % prm) 6), .int .u64 (dg (kv b0 b1 b2 b3 b4 b5 b6 b7 b8 b9 b10 b11 b12 b13 b14 b15 b16 b17 b18 b19 b20 b21 b22 b23 b24 b25 b26 b27 b28 b29 b30 b31 % 57896044618658097711785492504343953926634992332820282019728792003956564819968 % prm) 7), .int .u64 (dg (kv b0 b1 b2 b3 b4 b5 b6 b7 b8 b9 b10 b11 b12 b13 b14 b15 b16 b17 b18 b19 b20 b21 b22 b23 b24 b25 b26 b27 b28 b29 b30 b31 % 57896044618658097711785492504343953926634992332820282019728792003956564819968 % prm) 8), .int .u64 (dg (kv b0 b1 b2 b3 b4 b5 b6 b7 b8 b9 b10 b11 b12 b13 b14 b15 b16 b17 b18 b19 b20 b21 b22 b23 b24 b25 b26 b27 b28 b29 b30 b31 % 57896044618658097711785492504343953926634992332820282019728792003956564819968 % prm) 9), .int .u64 (dg (kv b0 b1 b2 b3 b4 b5 b6 b7 b8 b9 b10 b11 b12 b13 b14 b15 b16 b17 b18 b19 b20 b21 b22 b23 b24 b25 b26 b27 b28 b29 b30 b31 % 57896044618658097711785492504343953926634992332820282019728792003956564819968 % prm) 10), .int .u64 (dg (kv b0 b1 b2 b3 b4 b5 b6 b7 b8 b9 b10 b11 b12 b13 b14 b15 b16 b17 b18 b19 b20 b21 b22 b23 b24 b25 b26 b27 b28 b29 b30 b31 % 57896044618658097711785492504343953926634992332820282019728792003956564819968 % prm) 11), .int .u64 (dg (kv b0 b1 b2 b3 b4 b5 b6 b7 b8 b9 b10 b11 b12 b13 b14 b15 b16 b17 b18 b19 b20 b21 b22 b23 b24 b25 b26 b27 b28 b29 b30 b31 % 57896044618658097711785492504343953926634992332820282019728792003956564819968 % prm) 12), .int .u64 (dg (kv b0 b1 b2 b3 b4 b5 b6 b7 b8 b9 b10 b11 b12 b13 b14 b15 b16 b17 b18 b19 b20 b21 b22 b23 b24 b25 b26 b27 b28 b29 b30 b31 % 57896044618658097711785492504343953926634992332820282019728792003956564819968 % prm) 13), .int .u64 (dg (kv b0 b1 b2 b3 b4 b5 b6 b7 b8 b9 b10 b11 b12 b13 b14 b15 b16 b17 b18 b19 b20 b21 b22 b23 b24 b25 b26 b27 b28 b29 b30 b31 % 57896044618658097711785492504343953926634992332820282019728792003956564819968 % prm) 14), .int .u64 (dg (kv b0 b1 b2 b3 b4 b5 b6 b7 b8 b9 b10 b11 b12 b13 b14 b15 b16 b17 b18 b19 b20 b21 b22 b23 b24 b25 b26 b27 b28 b29 b30 b31 % 57896044618658097711785492504343953926634992332820282019728792003956564819968 % prm) 15)]) ∧ Below w.heap.size w w' := by
 go_enter Tryz.func53, Tryz.ntmps53
 go_wp2
 refine wp_loop_rounds 17 ?_
 rw [rounds_succ]
 go_wp2
 refine wp_region_tail (C := fun w' => ∃ n, w' = World.drewN _ n) 15 _ rfl rfl rfl (by kernel_rfl) (by kernel_rfl) (by kernel_rfl) (by kernel_rfl) ⟨1, rfl⟩ ?_
 dsimp only [List.set, idle]
 repeat (go_big_quiet_step (fail))
 first | refine wpQuiet_nil ?_ | refine wpQuiet_idle rfl rfl rfl ?_
 rintro _ ⟨n0, rfl⟩
 go_wp2
 rw [rounds_succ]
 go_wp2
 refine wp_region_tail (C := fun w' => ∃ n, w' = World.drewN _ n) 15 _ rfl rfl rfl (by kernel_rfl) (by kernel_rfl) (by kernel_rfl) (by kernel_rfl) ⟨1, rfl⟩ ?_
 dsimp only [List.set, idle]
 repeat (go_big_quiet_step (fail))
 first | refine wpQuiet_nil ?_ | refine wpQuiet_idle rfl rfl rfl ?_
 rintro _ ⟨n1, rfl⟩
 go_wp2
 rw [rounds_succ]
 go_wp2
 refine wp_region_tail (C := fun w' => ∃ n, w' = World.drewN _ n) 15 _ rfl rfl rfl (by kernel_rfl) (by kernel_rfl) (by kernel_rfl) (by kernel_rfl) ⟨1, rfl⟩ ?_
 dsimp only [List.set, idle]
 repeat (go_big_quiet_step (fail))
 first | refine wpQuiet_nil ?_ | refine wpQuiet_idle rfl rfl rfl ?_
 rintro _ ⟨n2, rfl⟩
 go_wp2
 rw [rounds_succ]
 go_wp2
 refine wp_region_tail (C := fun w' => ∃ n, w' = World.drewN _ n) 15 _ rfl rfl rfl (by kernel_rfl) (by kernel_rfl) (by kernel_rfl) (by kernel_rfl) ⟨1, rfl⟩ ?_
 dsimp only [List.set, idle]
 repeat (go_big_quiet_step (fail))
 first | refine wpQuiet_nil ?_ | refine wpQuiet_idle rfl rfl rfl ?_
 rintro _ ⟨n3, rfl⟩
 go_wp2
 rw [rounds_succ]
 go_wp2
 refine wp_region_tail (C := fun w' => ∃ n, w' = World.drewN _ n) 15 _ rfl rfl rfl (by kernel_rfl) (by kernel_rfl) (by kernel_rfl) (by kernel_rfl) ⟨1, rfl⟩ ?_
 dsimp only [List.set, idle]
 repeat (go_big_quiet_step (fail))
 first | refine wpQuiet_nil ?_ | refine wpQuiet_idle rfl rfl rfl ?_
 rintro _ ⟨n4, rfl⟩
 go_wp2
 rw [rounds_succ]
 go_wp2
 refine wp_region_tail (C := fun w' => ∃ n, w' = World.drewN _ n) 15 _ rfl rfl rfl (by kernel_rfl) (by kernel_rfl) (by kernel_rfl) (by kernel_rfl) ⟨1, rfl⟩ ?_
 dsimp only [List.set, idle]
 repeat (go_big_quiet_step (fail))
 first | refine wpQuiet_nil ?_ | refine wpQuiet_idle rfl rfl rfl ?_
 rintro _ ⟨n5, rfl⟩
 go_wp2
 rw [rounds_succ]
 go_wp2
 refine wp_region_tail (C := fun w' => ∃ n, w' = World.drewN _ n) 15 _ rfl rfl rfl (by kernel_rfl) (by kernel_rfl) (by kernel_rfl) (by kernel_rfl) ⟨1, rfl⟩ ?_
 dsimp only [List.set, idle]
 repeat (go_big_quiet_step (fail))
 first | refine wpQuiet_nil ?_ | refine wpQuiet_idle rfl rfl rfl ?_
 rintro _ ⟨n6, rfl⟩
 go_wp2
 rw [rounds_succ]
 go_wp2
 refine wp_region_tail (C := fun w' => ∃ n, w' = World.drewN _ n) 15 _ rfl rfl rfl (by kernel_rfl) (by kernel_rfl) (by kernel_rfl) (by kernel_rfl) ⟨1, rfl⟩ ?_
 dsimp only [List.set, idle]
 repeat (go_big_quiet_step (fail))
 first | refine wpQuiet_nil ?_ | refine wpQuiet_idle rfl rfl rfl ?_
 rintro _ ⟨n7, rfl⟩
 go_wp2
 rw [rounds_succ]
 go_wp2
 refine wp_region_tail (C := fun w' => ∃ n, w' = World.drewN _ n) 15 _ rfl rfl rfl (by kernel_rfl) (by kernel_rfl) (by kernel_rfl) (by kernel_rfl) ⟨1, rfl⟩ ?_
 dsimp only [List.set, idle]
 repeat (go_big_quiet_step (fail))
 first | refine wpQuiet_nil ?_ | refine wpQuiet_idle rfl rfl rfl ?_
 rintro _ ⟨n8, rfl⟩
 go_wp2
 rw [rounds_succ]
 go_wp2
 refine wp_region_tail (C := fun w' => ∃ n, w' = World.drewN _ n) 15 _ rfl rfl rfl (by kernel_rfl) (by kernel_rfl) (by kernel_rfl) (by kernel_rfl) ⟨1, rfl⟩ ?_
 dsimp only [List.set, idle]
 repeat (go_big_quiet_step (fail))
 first | refine wpQuiet_nil ?_ | refine wpQuiet_idle rfl rfl rfl ?_
 rintro _ ⟨n9, rfl⟩
 go_wp2
 rw [rounds_succ]
 go_wp2
 refine wp_region_tail (C := fun w' => ∃ n, w' = World.drewN _ n) 15 _ rfl rfl rfl (by kernel_rfl) (by kernel_rfl) (by kernel_rfl) (by kernel_rfl) ⟨1, rfl⟩ ?_
 dsimp only [List.set, idle]
 repeat (go_big_quiet_step (fail))
 first | refine wpQuiet_nil ?_ | refine wpQuiet_idle rfl rfl rfl ?_
 rintro _ ⟨n10, rfl⟩
 go_wp2
 rw [rounds_succ]
 go_wp2
 refine wp_region_tail (C := fun w' => ∃ n, w' = World.drewN _ n) 15 _ rfl rfl rfl (by kernel_rfl) (by kernel_rfl) (by kernel_rfl) (by kernel_rfl) ⟨1, rfl⟩ ?_
 dsimp only [List.set, idle]
 repeat (go_big_quiet_step (fail))
 first | refine wpQuiet_nil ?_ | refine wpQuiet_idle rfl rfl rfl ?_
 rintro _ ⟨n11, rfl⟩
 go_wp2
 rw [rounds_succ]
 go_wp2
 refine wp_region_tail (C := fun w' => ∃ n, w' = World.drewN _ n) 15 _ rfl rfl rfl (by kernel_rfl) (by kernel_rfl) (by kernel_rfl) (by kernel_rfl) ⟨1, rfl⟩ ?_
 dsimp only [List.set, idle]
 repeat (go_big_quiet_step (fail))
 first | refine wpQuiet_nil ?_ | refine wpQuiet_idle rfl rfl rfl ?_
 rintro _ ⟨n12, rfl⟩
 go_wp2
 rw [rounds_succ]
 go_wp2
 refine wp_region_tail (C := fun w' => ∃ n, w' = World.drewN _ n) 15 _ rfl rfl rfl (by kernel_rfl) (by kernel_rfl) (by kernel_rfl) (by kernel_rfl) ⟨1, rfl⟩ ?_
 dsimp only [List.set, idle]
 repeat (go_big_quiet_step (fail))
 first | refine wpQuiet_nil ?_ | refine wpQuiet_idle rfl rfl rfl ?_
 rintro _ ⟨n13, rfl⟩
 go_wp2
 rw [rounds_succ]
 go_wp2
 refine wp_region_tail (C := fun w' => ∃ n, w' = World.drewN _ n) 15 _ rfl rfl rfl (by kernel_rfl) (by kernel_rfl) (by kernel_rfl) (by kernel_rfl) ⟨1, rfl⟩ ?_
 dsimp only [List.set, idle]
 repeat (go_big_quiet_step (fail))
 first | refine wpQuiet_nil ?_ | refine wpQuiet_idle rfl rfl rfl ?_
 rintro _ ⟨n14, rfl⟩
 go_wp2
 rw [rounds_succ]
 go_wp2
 refine wp_region_tail (C := fun w' => ∃ n, w' = World.drewN _ n) 15 _ rfl rfl rfl (by kernel_rfl) (by kernel_rfl) (by kernel_rfl) (by kernel_rfl) ⟨1, rfl⟩ ?_
 dsimp only [List.set, idle]
 repeat (go_big_quiet_step (fail))
 first | refine wpQuiet_nil ?_ | refine wpQuiet_idle rfl rfl rfl ?_
 rintro _ ⟨n15, rfl⟩
 go_wp2
 rw [rounds_succ]
 go_wp2_with (first | (refine wpList_load_row rfl 99 _ rfl (w.heap.size + 1 + 1) rfl 99 #[.int .u64 (b0 + 256 * b1), .int .u64 (b2 + 256 * b3), .int .u64 (b4 + 256 * b5), .int .u64 (b6 + 256 * b7), .int .u64 (b8 + 256 * b9), .int .u64 (b10 + 256 * b11), .int .u64 (b12 + 256 * b13), .int .u64 (b14 + 256 * b15), .int .u64 (b16 + 256 * b17), .int .u64 (b18 + 256 * b19), .int .u64 (b20 + 256 * b21), .int .u64 (b22 + 256 * b23), .int .u64 (b24 + 256 * b25), .int .u64 (b26 + 256 * b27), .int .u64 (b28 + 256 * b29), .int .u64 ((b30 + 256 * b31) % 32768)] (0, 0) _ (by rw [World.heap_drewN, hp3_2]) Tryz.underlying99 rfl (by kernel_rfl) ?_) | fail)
 refine (settle_any _ _ _ _ _ _ _ _ _ _ _ _ _ _ _ _ (by omega) (by omega) (by omega) (by omega) (by omega) (by omega) (by omega) (by omega) (by omega) (by omega) (by omega) (by omega) (by omega) (by omega) (by omega) (by omega) (by omega) (by omega) (by omega) (by omega) (by omega) (by omega) (by omega) (by omega) (by omega) (by omega) (by omega) (by omega) (by omega) (by omega) (by omega) (by omega) _).mono ?_
 rintro e w1 ⟨rfl, hb⟩
 have hsz := hb.size
 simp only [World.heap_drewN, World.size_alloc] at hsz
 have rZ : w1.heap[w.heap.size + 1]? = some (.cells #[.int .u64 0, .int .u64 0, .int .u64 0, .int .u64 0, .int .u64 0, .int .u64 0, .int .u64 0, .int .u64 0, .int .u64 0, .int .u64 0, .int .u64 0, .int .u64 0, .int .u64 0, .int .u64 0, .int .u64 0, .int .u64 0] 101 (0, 0)) := (hb.block _ (by simp)).trans (by rw [World.heap_drewN, hp3_1])
 have hbw : Below w.heap.size w w1 := (below_drN ((((Below.refl _ _).alloc (Nat.le_refl _) _).alloc (by simp) _).alloc (by simp; omega) _) _).trans (hb.mono (by simp; omega))
 clear hb
 rw [kv_v16 b0 b1 b2 b3 b4 b5 b6 b7 b8 b9 b10 b11 b12 b13 b14 b15 b16 b17 b18 b19 b20 b21 b22 b23 b24 b25 b26 b27 b28 b29 b30 b31 lo0 hi0 lo1 hi1 lo2 hi2 lo3 hi3 lo4 hi4 lo5 hi5 lo6 hi6 lo7 hi7 lo8 hi8 lo9 hi9 lo10 hi10 lo11 hi11 lo12 hi12 lo13 hi13 lo14 hi14 lo15 hi15 lo16 hi16 lo17 hi17 lo18 hi18 lo19 hi19 lo20 hi20 lo21 hi21 lo22 hi22 lo23 hi23 lo24 hi24 lo25 hi25 lo26 hi26 lo27 hi27 lo28 hi28 lo29 hi29]
 go_wp2_with (first | (refine wpList_store_row rfl 101 _ _ rfl (w.heap.size + 1) #[.int .u64 (dg (kv b0 b1 b2 b3 b4 b5 b6 b7 b8 b9 b10 b11 b12 b13 b14 b15 b16 b17 b18 b19 b20 b21 b22 b23 b24 b25 b26 b27 b28 b29 b30 b31 % 57896044618658097711785492504343953926634992332820282019728792003956564819968 % prm) 0), .int .u64 (dg (kv b0 b1 b2 b3 b4 b5 b6 b7 b8 b9 b10 b11 b12 b13 b14 b15 b16 b17 b18 b19 b20 b21 b22 b23 b24 b25 b26 b27 b28 b29 b30 b31 % 57896044618658097711785492504343953926634992332820282019728792003956564819968 % prm) 1), .int .u64 (dg (kv b0 b1 b2 b3 b4 b5 b6 b7 b8 b9 b10 b11 b12 b13 b14 b15 b16 b17 b18 b19 b20 b21 b22 b23 b24 b25 b26 b27 b28 b29 b30 b31 % 57896044618658097711785492504343953926634992332820282019728792003956564819968 % prm) 2), .int .u64 (dg (kv b0 b1 b2 b3 b4 b5 b6 b7 b8 b9 b10 b11 b12 b13 b14 b15 b16 b17 b18 b19 b20 b21 b22 b23 b24 b25 b26 b27 b28 b29 b30 b31 % 57896044618658097711785492504343953926634992332820282019728792003956564819968 % prm) 3), .int .u64 (dg (kv b0 b1 b2 b3 b4 b5 b6 b7 b8 b9 b10 b11 b12 b13 b14 b15 b16 b17 b18 b19 b20 b21 b22 b23 b24 b25 b26 b27 b28 b29 b30 b31 % 57896044618658097711785492504343953926634992332820282019728792003956564819968 % prm) 4), .int .u64 (dg (kv b0 b1 b2 b3 b4 b5 b6 b7 b8 b9 b10 b11 b12 b13 b14 b15 b16 b17 b18 b19 b20 b21 b22 b23 b24 b25 b26 b27 b28 b29 b30 b31 % 57896044618658097711785492504343953926634992332820282019728792003956564819968 % prm) 5), .int .u64 (dg (kv b0 b1 b2 b3 b4 b5 b6 b7 b8 b9 b10 b11 b12 b13 b14 b15 b16 b17 b18 b19 b20 b21 b22 b23 b24 b25 b26 b27 b28 b29 b30 b31 % 57896044618658097711785492504343953926634992332820282019728792003956564819968 % prm) 6), .int .u64 (dg (kv b0 b1 b2 b3 b4 b5 b6 b7 b8 b9 b10 b11 b12 b13 b14 b15 b16 b17 b18 b19 b20 b21 b22 b23 b24 b25 b26 b27 b28 b29 b30 b31 % 57896044618658097711785492504343953926634992332820282019728792003956564819968 % prm) 7), .int .u64 (dg (kv b0 b1 b2 b3 b4 b5 b6 b7 b8 b9 b10 b11 b12 b13 b14 b15 b16 b17 b18 b19 b20 b21 b22 b23 b24 b25 b26 b27 b28 b29 b30 b31 % 57896044618658097711785492504343953926634992332820282019728792003956564819968 % prm) 8), .int .u64 (dg (kv b0 b1 b2 b3 b4 b5 b6 b7 b8 b9 b10 b11 b12 b13 b14 b15 b16 b17 b18 b19 b20 b21 b22 b23 b24 b25 b26 b27 b28 b29 b30 b31 % 57896044618658097711785492504343953926634992332820282019728792003956564819968 % prm) 9), .int .u64 (dg (kv b0 b1 b2 b3 b4 b5 b6 b7 b8 b9 b10 b11 b12 b13 b14 b15 b16 b17 b18 b19 b20 b21 b22 b23 b24 b25 b26 b27 b28 b29 b30 b31 % 57896044618658097711785492504343953926634992332820282019728792003956564819968 % prm) 10), .int .u64 (dg (kv b0 b1 b2 b3 b4 b5 b6 b7 b8 b9 b10 b11 b12 b13 b14 b15 b16 b17 b18 b19 b20 b21 b22 b23 b24 b25 b26 b27 b28 b29 b30 b31 % 57896044618658097711785492504343953926634992332820282019728792003956564819968 % prm) 11), .int .u64 (dg (kv b0 b1 b2 b3 b4 b5 b6 b7 b8 b9 b10 b11 b12 b13 b14 b15 b16 b17 b18 b19 b20 b21 b22 b23 b24 b25 b26 b27 b28 b29 b30 b31 % 57896044618658097711785492504343953926634992332820282019728792003956564819968 % prm) 12), .int .u64 (dg (kv b0 b1 b2 b3 b4 b5 b6 b7 b8 b9 b10 b11 b12 b13 b14 b15 b16 b17 b18 b19 b20 b21 b22 b23 b24 b25 b26 b27 b28 b29 b30 b31 % 57896044618658097711785492504343953926634992332820282019728792003956564819968 % prm) 13), .int .u64 (dg (kv b0 b1 b2 b3 b4 b5 b6 b7 b8 b9 b10 b11 b12 b13 b14 b15 b16 b17 b18 b19 b20 b21 b22 b23 b24 b25 b26 b27 b28 b29 b30 b31 % 57896044618658097711785492504343953926634992332820282019728792003956564819968 % prm) 14), .int .u64 (dg (kv b0 b1 b2 b3 b4 b5 b6 b7 b8 b9 b10 b11 b12 b13 b14 b15 b16 b17 b18 b19 b20 b21 b22 b23 b24 b25 b26 b27 b28 b29 b30 b31 % 57896044618658097711785492504343953926634992332820282019728792003956564819968 % prm) 15)] rfl rfl 101 _ rZ (by kernel_rfl) rfl (by kernel_rfl) ?_) | fail)
 exact bodyPost_ret (v := .agg #[.int .u64 (dg (kv b0 b1 b2 b3 b4 b5 b6 b7 b8 b9 b10 b11 b12 b13 b14 b15 b16 b17 b18 b19 b20 b21 b22 b23 b24 b25 b26 b27 b28 b29 b30 b31 % 57896044618658097711785492504343953926634992332820282019728792003956564819968 % prm) 0), .int .u64 (dg (kv b0 b1 b2 b3 b4 b5 b6 b7 b8 b9 b10 b11 b12 b13 b14 b15 b16 b17 b18 b19 b20 b21 b22 b23 b24 b25 b26 b27 b28 b29 b30 b31 % 57896044618658097711785492504343953926634992332820282019728792003956564819968 % prm) 1), .int .u64 (dg (kv b0 b1 b2 b3 b4 b5 b6 b7 b8 b9 b10 b11 b12 b13 b14 b15 b16 b17 b18 b19 b20 b21 b22 b23 b24 b25 b26 b27 b28 b29 b30 b31 % 57896044618658097711785492504343953926634992332820282019728792003956564819968 % prm) 2), .int .u64 (dg (kv b0 b1 b2 b3 b4 b5 b6 b7 b8 b9 b10 b11 b12 b13 b14 b15 b16 b17 b18 b19 b20 b21 b22 b23 b24 b25 b26 b27 b28 b29 b30 b31 % 57896044618658097711785492504343953926634992332820282019728792003956564819968 % prm) 3), .int .u64 (dg (kv b0 b1 b2 b3 b4 b5 b6 b7 b8 b9 b10 b11 b12 b13 b14 b15 b16 b17 b18 b19 b20 b21 b22 b23 b24 b25 b26 b27 b28 b29 b30 b31 % 57896044618658097711785492504343953926634992332820282019728792003956564819968 % prm) 4), .int .u64 (dg (kv b0 b1 b2 b3 b4 b5 b6 b7 b8 b9 b10 b11 b12 b13 b14 b15 b16 b17 b18 b19 b20 b21 b22 b23 b24 b25 b26 b27 b28 b29 b30 b31 % 57896044618658097711785492504343953926634992332820282019728792003956564819968 % prm) 5), .int .u64 (dg (kv b0 b1 b2 b3 b4 b5 b6 b7 b8 b9 b10 b11 b12 b13 b14 b15 b16 b17 b18 b19 b20 b21 b22 b23 b24 b25 b26 b27 b28 b29 b30 b31 % 57896044618658097711785492504343953926634992332820282019728792003956564819968 % prm) 6), .int .u64 (dg (kv b0 b1 b2 b3 b4 b5 b6 b7 b8 b9 b10 b11 b12 b13 b14 b15 b16 b17 b18 b19 b20 b21 b22 b23 b24 b25 b26 b27 b28 b29 b30 b31 % 57896044618658097711785492504343953926634992332820282019728792003956564819968 % prm) 7), .int .u64 (dg (kv b0 b1 b2 b3 b4 b5 b6 b7 b8 b9 b10 b11 b12 b13 b14 b15 b16 b17 b18 b19 b20 b21 b22 b23 b24 b25 b26 b27 b28 b29 b30 b31 % 57896044618658097711785492504343953926634992332820282019728792003956564819968 % prm) 8), .int .u64 (dg (kv b0 b1 b2 b3 b4 b5 b6 b7 b8 b9 b10 b11 b12 b13 b14 b15 b16 b17 b18 b19 b20 b21 b22 b23 b24 b25 b26 b27 b28 b29 b30 b31 % 57896044618658097711785492504343953926634992332820282019728792003956564819968 % prm) 9), .int .u64 (dg (kv b0 b1 b2 b3 b4 b5 b6 b7 b8 b9 b10 b11 b12 b13 b14 b15 b16 b17 b18 b19 b20 b21 b22 b23 b24 b25 b26 b27 b28 b29 b30 b31 % 57896044618658097711785492504343953926634992332820282019728792003956564819968 % prm) 10), .int .u64 (dg (kv b0 b1 b2 b3 b4 b5 b6 b7 b8 b9 b10 b11 b12 b13 b14 b15 b16 b17 b18 b19 b20 b21 b22 b23 b24 b25 b26 b27 b28 b29 b30 b31 % 57896044618658097711785492504343953926634992332820282019728792003956564819968 % prm) 11), .int .u64 (dg (kv b0 b1 b2 b3 b4 b5 b6 b7 b8 b9 b10 b11 b12 b13 b14 b15 b16 b17 b18 b19 b20 b21 b22 b23 b24 b25 b26 b27 b28 b29 b30 b31 % 57896044618658097711785492504343953926634992332820282019728792003956564819968 % prm) 12), .int .u64 (dg (kv b0 b1 b2 b3 b4 b5 b6 b7 b8 b9 b10 b11 b12 b13 b14 b15 b16 b17 b18 b19 b20 b21 b22 b23 b24 b25 b26 b27 b28 b29 b30 b31 % 57896044618658097711785492504343953926634992332820282019728792003956564819968 % prm) 13), .int .u64 (dg (kv b0 b1 b2 b3 b4 b5 b6 b7 b8 b9 b10 b11 b12 b13 b14 b15 b16 b17 b18 b19 b20 b21 b22 b23 b24 b25 b26 b27 b28 b29 b30 b31 % 57896044618658097711785492504343953926634992332820282019728792003956564819968 % prm) 14), .int .u64 (dg (kv b0 b1 b2 b3 b4 b5 b6 b7 b8 b9 b10 b11 b12 b13 b14 b15 b16 b17 b18 b19 b20 b21 b22 b23 b24 b25 b26 b27 b28 b29 b30 b31 % 57896044618658097711785492504343953926634992332820282019728792003956564819968 % prm) 15)]) (results_cell_row Tryz.results53 _ _ (w.heap.size + 1) _ #[.int .u64 (dg (kv b0 b1 b2 b3 b4 b5 b6 b7 b8 b9 b10 b11 b12 b13 b14 b15 b16 b17 b18 b19 b20 b21 b22 b23 b24 b25 b26 b27 b28 b29 b30 b31 % 57896044618658097711785492504343953926634992332820282019728792003956564819968 % prm) 0), .int .u64 (dg (kv b0 b1 b2 b3 b4 b5 b6 b7 b8 b9 b10 b11 b12 b13 b14 b15 b16 b17 b18 b19 b20 b21 b22 b23 b24 b25 b26 b27 b28 b29 b30 b31 % 57896044618658097711785492504343953926634992332820282019728792003956564819968 % prm) 1), .int .u64 (dg (kv b0 b1 b2 b3 b4 b5 b6 b7 b8 b9 b10 b11 b12 b13 b14 b15 b16 b17 b18 b19 b20 b21 b22 b23 b24 b25 b26 b27 b28 b29 b30 b31 % 57896044618658097711785492504343953926634992332820282019728792003956564819968 % prm) 2), .int .u64 (dg (kv b0 b1 b2 b3 b4 b5 b6 b7 b8 b9 b10 b11 b12 b13 b14 b15 b16 b17 b18 b19 b20 b21 b22 b23 b24 b25 b26 b27 b28 b29 b30 b31 % 57896044618658097711785492504343953926634992332820282019728792003956564819968 % prm) 3), .int .u64 (dg (kv b0 b1 b2 b3 b4 b5 b6 b7 b8 b9 b10 b11 b12 b13 b14 b15 b16 b17 b18 b19 b20 b21 b22 b23 b24 b25 b26 b27 b28 b29 b30 b31 % 57896044618658097711785492504343953926634992332820282019728792003956564819968 % prm) 4), .int .u64 (dg (kv b0 b1 b2 b3 b4 b5 b6 b7 b8 b9 b10 b11 b12 b13 b14 b15 b16 b17 b18 b19 b20 b21 b22 b23 b24 b25 b26 b27 b28 b29 b30 b31 % 57896044618658097711785492504343953926634992332820282019728792003956564819968 % prm) 5), .int .u64 (dg (kv b0 b1 b2 b3 b4 b5 b6 b7 b8 b9 b10 b11 b12 b13 b14 b15 b16 b17 b18 b19 b20 b21 b22 b23 b24 b25 b26 b27 b28 b29 b30 b31 % 57896044618658097711785492504343953926634992332820282019728792003956564819968 % prm) 6), .int .u64 (dg (kv b0 b1 b2 b3 b4 b5 b6 b7 b8 b9 b10 b11 b12 b13 b14 b15 b16 b17 b18 b19 b20 b21 b22 b23 b24 b25 b26 b27 b28 b29 b30 b31 % 57896044618658097711785492504343953926634992332820282019728792003956564819968 % prm) 7), .int .u64 (dg (kv b0 b1 b2 b3 b4 b5 b6 b7 b8 b9 b10 b11 b12 b13 b14 b15 b16 b17 b18 b19 b20 b21 b22 b23 b24 b25 b26 b27 b28 b29 b30 b31 % 57896044618658097711785492504343953926634992332820282019728792003956564819968 % prm) 8), .int .u64 (dg (kv b0 b1 b2 b3 b4 b5 b6 b7 b8 b9 b10 b11 b12 b13 b14 b15 b16 b17 b18 b19 b20 b21 b22 b23 b24 b25 b26 b27 b28 b29 b30 b31 % 57896044618658097711785492504343953926634992332820282019728792003956564819968 % prm) 9), .int .u64 (dg (kv b0 b1 b2 b3 b4 b5 b6 b7 b8 b9 b10 b11 b12 b13 b14 b15 b16 b17 b18 b19 b20 b21 b22 b23 b24 b25 b26 b27 b28 b29 b30 b31 % 57896044618658097711785492504343953926634992332820282019728792003956564819968 % prm) 10), .int .u64 (dg (kv b0 b1 b2 b3 b4 b5 b6 b7 b8 b9 b10 b11 b12 b13 b14 b15 b16 b17 b18 b19 b20 b21 b22 b23 b24 b25 b26 b27 b28 b29 b30 b31 % 57896044618658097711785492504343953926634992332820282019728792003956564819968 % prm) 11), .int .u64 (dg (kv b0 b1 b2 b3 b4 b5 b6 b7 b8 b9 b10 b11 b12 b13 b14 b15 b16 b17 b18 b19 b20 b21 b22 b23 b24 b25 b26 b27 b28 b29 b30 b31 % 57896044618658097711785492504343953926634992332820282019728792003956564819968 % prm) 12), .int .u64 (dg (kv b0 b1 b2 b3 b4 b5 b6 b7 b8 b9 b10 b11 b12 b13 b14 b15 b16 b17 b18 b19 b20 b21 b22 b23 b24 b25 b26 b27 b28 b29 b30 b31 % 57896044618658097711785492504343953926634992332820282019728792003956564819968 % prm) 13), .int .u64 (dg (kv b0 b1 b2 b3 b4 b5 b6 b7 b8 b9 b10 b11 b12 b13 b14 b15 b16 b17 b18 b19 b20 b21 b22 b23 b24 b25 b26 b27 b28 b29 b30 b31 % 57896044618658097711785492504343953926634992332820282019728792003956564819968 % prm) 14), .int .u64 (dg (kv b0 b1 b2 b3 b4 b5 b6 b7 b8 b9 b10 b11 b12 b13 b14 b15 b16 b17 b18 b19 b20 b21 b22 b23 b24 b25 b26 b27 b28 b29 b30 b31 % 57896044618658097711785492504343953926634992332820282019728792003956564819968 % prm) 15)] _ _ rfl (setRow_heap _ _ _ _ _ _ rZ) Tryz.underlying101 rfl (by kernel_rfl)) rfl ⟨rfl, below_setRow hbw (by omega) _⟩
end Go.Proofs.YtgbkbcgjagcgbaaGreatDoor.Lo
namespace Go.Proofs.YtgbkbcgjagcgbaaGreatDoor.Lo
set_option maxRecDepth 100000
open Go.RowKit Go.Sort
attribute [local go_sem] setCell_drewN alloc_drewN
set_option maxHeartbeats 4000000 in
theorem refBytes_any (x0 x1 x2 x3 x4 x5 x6 x7 x8 x9 x10 x11 x12 x13 x14 x15 : Int) (lo0 : 0 ≤ x0) (hi0 : x0 < 65536) (lo1 : 0 ≤ x1) (hi1 : x1 < 65536) (lo2 : 0 ≤ x2) (hi2 : x2 < 65536) (lo3 : 0 ≤ x3) (hi3 : x3 < 65536) (lo4 : 0 ≤ x4) (hi4 : x4 < 65536) (lo5 : 0 ≤ x5) (hi5 : x5 < 65536) (lo6 : 0 ≤ x6) (hi6 : x6 < 65536) (lo7 : 0 ≤ x7) (hi7 : x7 < 65536) (lo8 : 0 ≤ x8) (hi8 : x8 < 65536) (lo9 : 0 ≤ x9) (hi9 : x9 < 65536) (lo10 : 0 ≤ x10) (hi10 : x10 < 65536) (lo11 : 0 ≤ x11) (hi11 : x11 < 65536) (lo12 : 0 ≤ x12) (hi12 : x12 < 65536) (lo13 : 0 ≤ x13) (hi13 : x13 < 65536) (lo14 : 0 ≤ x14) (hi14 : x14 < 65536) (lo15 : 0 ≤ x15) (hi15 : x15 < 65536) (w : World) :
   Calls Tryz.prog 60 #[.agg #[.int .u64 x0, .int .u64 x1, .int .u64 x2, .int .u64 x3, .int .u64 x4, .int .u64 x5, .int .u64 x6, .int .u64 x7, .int .u64 x8, .int .u64 x9, .int .u64 x10, .int .u64 x11, .int .u64 x12, .int .u64 x13, .int .u64 x14, .int .u64 x15]] w fun e w' => e = .returned (.agg #[.int .u8 (x0 % 256), .int .u8 (x0 / 256), .int .u8 (x1 % 256), .int .u8 (x1 / 256), .int .u8 (x2 % 256), .int .u8 (x2 / 256), .int .u8 (x3 % 256), .int .u8 (x3 / 256), .int .u8 (x4 % 256), .int .u8 (x4 / 256), .int .u8 (x5 % 256), .int .u8 (x5 / 256), .int .u8 (x6 % 256), .int .u8 (x6 / 256), .int .u8 (x7 % 256), .int .u8 (x7 / 256), .int .u8 (x8 % 256), .int .u8 (x8 / 256), .int .u8 (x9 % 256), .int .u8 (x9 / 256), .int .u8 (x10 % 256), .int .u8 (x10 / 256), .int .u8 (x11 % 256), .int .u8 (x11 / 256), .int .u8 (x12 % 256), .int .u8 (x12 / 256), .int .u8 (x13 % 256), .int .u8 (x13 / 256), .int .u8 (x14 % 256), .int .u8 (x14 / 256), .int .u8 (x15 % 256), .int .u8 (x15 / 256)]) ∧ Below w.heap.size w w' := by
 go_enter Tryz.func60, Tryz.ntmps60
 go_wp2
 refine wp_loop_rounds 17 ?_
 rw [rounds_succ]
 go_wp2
 rw [rounds_succ]
 go_wp2
 rw [rounds_succ]
 go_wp2
 rw [rounds_succ]
 go_wp2
 rw [rounds_succ]
 go_wp2
 rw [rounds_succ]
 go_wp2
 rw [rounds_succ]
 go_wp2
 rw [rounds_succ]
 go_wp2
 rw [rounds_succ]
 go_wp2
 rw [rounds_succ]
 go_wp2
 rw [rounds_succ]
 go_wp2
 rw [rounds_succ]
 go_wp2
 rw [rounds_succ]
 go_wp2
 rw [rounds_succ]
 go_wp2
 rw [rounds_succ]
 go_wp2
 rw [rounds_succ]
 go_wp2
 rw [rounds_succ]
 go_wp2_with (first | (refine wpList_load_row rfl 23 _ rfl (w.heap.size + 1 + 1) rfl 23 #[.int .u8 (x0 % 256), .int .u8 (x0 / 256), .int .u8 (x1 % 256), .int .u8 (x1 / 256), .int .u8 (x2 % 256), .int .u8 (x2 / 256), .int .u8 (x3 % 256), .int .u8 (x3 / 256), .int .u8 (x4 % 256), .int .u8 (x4 / 256), .int .u8 (x5 % 256), .int .u8 (x5 / 256), .int .u8 (x6 % 256), .int .u8 (x6 / 256), .int .u8 (x7 % 256), .int .u8 (x7 / 256), .int .u8 (x8 % 256), .int .u8 (x8 / 256), .int .u8 (x9 % 256), .int .u8 (x9 / 256), .int .u8 (x10 % 256), .int .u8 (x10 / 256), .int .u8 (x11 % 256), .int .u8 (x11 / 256), .int .u8 (x12 % 256), .int .u8 (x12 / 256), .int .u8 (x13 % 256), .int .u8 (x13 / 256), .int .u8 (x14 % 256), .int .u8 (x14 / 256), .int .u8 (x15 % 256), .int .u8 (x15 / 256)] (0, 0) _ (hp3_2 w _ _ _) Tryz.underlying23 rfl (by kernel_rfl) ?_) | (refine wpList_store_row rfl 23 _ _ rfl (w.heap.size + 1) #[.int .u8 (x0 % 256), .int .u8 (x0 / 256), .int .u8 (x1 % 256), .int .u8 (x1 / 256), .int .u8 (x2 % 256), .int .u8 (x2 / 256), .int .u8 (x3 % 256), .int .u8 (x3 / 256), .int .u8 (x4 % 256), .int .u8 (x4 / 256), .int .u8 (x5 % 256), .int .u8 (x5 / 256), .int .u8 (x6 % 256), .int .u8 (x6 / 256), .int .u8 (x7 % 256), .int .u8 (x7 / 256), .int .u8 (x8 % 256), .int .u8 (x8 / 256), .int .u8 (x9 % 256), .int .u8 (x9 / 256), .int .u8 (x10 % 256), .int .u8 (x10 / 256), .int .u8 (x11 % 256), .int .u8 (x11 / 256), .int .u8 (x12 % 256), .int .u8 (x12 / 256), .int .u8 (x13 % 256), .int .u8 (x13 / 256), .int .u8 (x14 % 256), .int .u8 (x14 / 256), .int .u8 (x15 % 256), .int .u8 (x15 / 256)] rfl rfl 23 _ (hp3_1 w _ _ _) (by kernel_rfl) rfl (by kernel_rfl) ?_))
 exact bodyPost_ret (v := .agg #[.int .u8 (x0 % 256), .int .u8 (x0 / 256), .int .u8 (x1 % 256), .int .u8 (x1 / 256), .int .u8 (x2 % 256), .int .u8 (x2 / 256), .int .u8 (x3 % 256), .int .u8 (x3 / 256), .int .u8 (x4 % 256), .int .u8 (x4 / 256), .int .u8 (x5 % 256), .int .u8 (x5 / 256), .int .u8 (x6 % 256), .int .u8 (x6 / 256), .int .u8 (x7 % 256), .int .u8 (x7 / 256), .int .u8 (x8 % 256), .int .u8 (x8 / 256), .int .u8 (x9 % 256), .int .u8 (x9 / 256), .int .u8 (x10 % 256), .int .u8 (x10 / 256), .int .u8 (x11 % 256), .int .u8 (x11 / 256), .int .u8 (x12 % 256), .int .u8 (x12 / 256), .int .u8 (x13 % 256), .int .u8 (x13 / 256), .int .u8 (x14 % 256), .int .u8 (x14 / 256), .int .u8 (x15 % 256), .int .u8 (x15 / 256)]) (results_cell_row Tryz.results60 _ _ (w.heap.size + 1) _ #[.int .u8 (x0 % 256), .int .u8 (x0 / 256), .int .u8 (x1 % 256), .int .u8 (x1 / 256), .int .u8 (x2 % 256), .int .u8 (x2 / 256), .int .u8 (x3 % 256), .int .u8 (x3 / 256), .int .u8 (x4 % 256), .int .u8 (x4 / 256), .int .u8 (x5 % 256), .int .u8 (x5 / 256), .int .u8 (x6 % 256), .int .u8 (x6 / 256), .int .u8 (x7 % 256), .int .u8 (x7 / 256), .int .u8 (x8 % 256), .int .u8 (x8 / 256), .int .u8 (x9 % 256), .int .u8 (x9 / 256), .int .u8 (x10 % 256), .int .u8 (x10 / 256), .int .u8 (x11 % 256), .int .u8 (x11 / 256), .int .u8 (x12 % 256), .int .u8 (x12 / 256), .int .u8 (x13 % 256), .int .u8 (x13 / 256), .int .u8 (x14 % 256), .int .u8 (x14 / 256), .int .u8 (x15 % 256), .int .u8 (x15 / 256)] _ _ rfl (setRow_heap _ _ _ _ _ _ (hp3_1 w _ _ _)) Tryz.underlying23 rfl (by kernel_rfl)) rfl ⟨rfl, below_setRow ((((Below.refl _ _).alloc (Nat.le_refl _) _).alloc (by simp) _).alloc (by simp; omega) _) (by omega) _⟩
theorem refBytes_dg (m : Int) (w : World) :
   Calls Tryz.prog 60 #[.agg #[.int .u64 (dg m 0), .int .u64 (dg m 1), .int .u64 (dg m 2), .int .u64 (dg m 3), .int .u64 (dg m 4), .int .u64 (dg m 5), .int .u64 (dg m 6), .int .u64 (dg m 7), .int .u64 (dg m 8), .int .u64 (dg m 9), .int .u64 (dg m 10), .int .u64 (dg m 11), .int .u64 (dg m 12), .int .u64 (dg m 13), .int .u64 (dg m 14), .int .u64 (dg m 15)]] w fun e w' => e = .returned (.agg #[.int .u8 (byt m 0), .int .u8 (byt m 1), .int .u8 (byt m 2), .int .u8 (byt m 3), .int .u8 (byt m 4), .int .u8 (byt m 5), .int .u8 (byt m 6), .int .u8 (byt m 7), .int .u8 (byt m 8), .int .u8 (byt m 9), .int .u8 (byt m 10), .int .u8 (byt m 11), .int .u8 (byt m 12), .int .u8 (byt m 13), .int .u8 (byt m 14), .int .u8 (byt m 15), .int .u8 (byt m 16), .int .u8 (byt m 17), .int .u8 (byt m 18), .int .u8 (byt m 19), .int .u8 (byt m 20), .int .u8 (byt m 21), .int .u8 (byt m 22), .int .u8 (byt m 23), .int .u8 (byt m 24), .int .u8 (byt m 25), .int .u8 (byt m 26), .int .u8 (byt m 27), .int .u8 (byt m 28), .int .u8 (byt m 29), .int .u8 (byt m 30), .int .u8 (byt m 31)]) ∧ Below w.heap.size w w' := by
 have h := refBytes_any (dg m 0) (dg m 1) (dg m 2) (dg m 3) (dg m 4) (dg m 5) (dg m 6) (dg m 7) (dg m 8) (dg m 9) (dg m 10) (dg m 11) (dg m 12) (dg m 13) (dg m 14) (dg m 15) (dg_bd m 0).1 (dg_bd m 0).2 (dg_bd m 1).1 (dg_bd m 1).2 (dg_bd m 2).1 (dg_bd m 2).2 (dg_bd m 3).1 (dg_bd m 3).2 (dg_bd m 4).1 (dg_bd m 4).2 (dg_bd m 5).1 (dg_bd m 5).2 (dg_bd m 6).1 (dg_bd m 6).2 (dg_bd m 7).1 (dg_bd m 7).2 (dg_bd m 8).1 (dg_bd m 8).2 (dg_bd m 9).1 (dg_bd m 9).2 (dg_bd m 10).1 (dg_bd m 10).2 (dg_bd m 11).1 (dg_bd m 11).2 (dg_bd m 12).1 (dg_bd m 12).2 (dg_bd m 13).1 (dg_bd m 13).2 (dg_bd m 14).1 (dg_bd m 14).2 (dg_bd m 15).1 (dg_bd m 15).2 w
 simp only [dg_low, dg_high] at h
 exact h
end Go.Proofs.YtgbkbcgjagcgbaaGreatDoor.Lo
namespace Go.Proofs.YtgbkbcgjagcgbaaGreatDoor.Lo
set_option maxRecDepth 100000
open Go.RowKit Go.Sort
attribute [local go_sem] setCell_drewN alloc_drewN
def rd (m : Int) : Array Value := #[.int .u64 (dg m 0), .int .u64 (dg m 1), .int .u64 (dg m 2), .int .u64 (dg m 3), .int .u64 (dg m 4), .int .u64 (dg m 5), .int .u64 (dg m 6), .int .u64 (dg m 7), .int .u64 (dg m 8), .int .u64 (dg m 9), .int .u64 (dg m 10), .int .u64 (dg m 11), .int .u64 (dg m 12), .int .u64 (dg m 13), .int .u64 (dg m 14), .int .u64 (dg m 15)]
theorem rd_size (m : Int) : (rd m).size = 16 := rfl
theorem rd_one (m : Int) : (rd m).all (·.oneCell') = true := by kernel_rfl
theorem ref_info : (Tryz.prog.info? 101).map (·.size) = some 16 := by kernel_rfl
theorem rd_info (m : Int) : (Tryz.prog.info? 101).map (·.size) = some (rd m).size := ref_info
def inP (m : Int) : Prop := 0 ≤ m ∧ m < prm
theorem inP_mod (x : Int) : inP (x % prm) := by unfold inP prm; omega
theorem r_from {k : Array Value} {N : Int} (h : KeyOf k N) : Gives 53 #[.agg k] (.agg (rd (N % 57896044618658097711785492504343953926634992332820282019728792003956564819968 % prm))) := by
 obtain ⟨k0, k1, k2, k3, k4, k5, k6, k7, k8, k9, k10, k11, k12, k13, k14, k15, k16, k17, k18, k19, k20, k21, k22, k23, k24, k25, k26, k27, k28, k29, k30, k31, rfl, ⟨h0, h1, h2, h3, h4, h5, h6, h7, h8, h9, h10, h11, h12, h13, h14, h15, h16, h17, h18, h19, h20, h21, h22, h23, h24, h25, h26, h27, h28, h29, h30, h31⟩, rfl⟩ := h
 exact fun W => refFrom_any k0 k1 k2 k3 k4 k5 k6 k7 k8 k9 k10 k11 k12 k13 k14 k15 k16 k17 k18 k19 k20 k21 k22 k23 k24 k25 k26 k27 k28 k29 k30 k31 h0.1 h0.2 h1.1 h1.2 h2.1 h2.2 h3.1 h3.2 h4.1 h4.2 h5.1 h5.2 h6.1 h6.2 h7.1 h7.2 h8.1 h8.2 h9.1 h9.2 h10.1 h10.2 h11.1 h11.2 h12.1 h12.2 h13.1 h13.2 h14.1 h14.2 h15.1 h15.2 h16.1 h16.2 h17.1 h17.2 h18.1 h18.2 h19.1 h19.2 h20.1 h20.2 h21.1 h21.2 h22.1 h22.2 h23.1 h23.2 h24.1 h24.2 h25.1 h25.2 h26.1 h26.2 h27.1 h27.2 h28.1 h28.2 h29.1 h29.2 h30.1 h30.2 h31.1 h31.2 W
theorem r_bytes (m : Int) : Gives 60 #[.agg (rd m)] (.agg (kb m)) := fun W => refBytes_dg m W
theorem r_mul {m q : Int} (h : inP m) (g : inP q) : Gives 58 #[.agg (rd m), .agg (rd q)] (.agg (rd (m * q % prm))) := fun W => refMul_dg m q h.1 h.2 g.1 g.2 W
theorem r_small (x : Int) (l : 0 ≤ x) (u : x < 18446744073709551616) : Gives 54 #[.int .u64 x] (.agg (rd x)) := fun W => refSmall_any x l u W
set_option maxHeartbeats 1000000 in
theorem r_square {m : Int} (h : inP m) : Gives 82 #[.agg (rd m)] (.agg (rd (m * m % prm))) := by
 have c := r_mul h h
 generalize m * m % prm = q at *
 intro w
 go_enter Tryz.func82, Tryz.ntmps82
 go_wp2_with (first | (refine wpList_load_row rfl 101 _ rfl w.heap.size rfl 101 (rd m) (0, 0) _ (hp2_0 w _ _) Tryz.underlying101 rfl (rd_info m) ?_) | fail)
 refine (c.at _).mono ?_
 rintro e w1 ⟨rfl, hb⟩
 have rZ : w1.heap[w.heap.size + 1]? = some (.cells #[.int .u64 0, .int .u64 0, .int .u64 0, .int .u64 0, .int .u64 0, .int .u64 0, .int .u64 0, .int .u64 0, .int .u64 0, .int .u64 0, .int .u64 0, .int .u64 0, .int .u64 0, .int .u64 0, .int .u64 0, .int .u64 0] 101 (0, 0)) := (hb.block _ (by simp)).trans (hp2_1 w _ _)
 have hbw : Below w.heap.size w w1 := (((Below.refl _ _).alloc (Nat.le_refl _) _).alloc (by simp) _).trans (hb.mono (by simp; omega))
 clear hb
 go_wp2_with (first | (refine wpList_store_row rfl 101 _ _ rfl (w.heap.size + 1) (rd q) rfl rfl 101 _ rZ (rd_info q) rfl (rd_one q) ?_) | fail)
 exact bodyPost_ret (v := .agg (rd q)) (results_cell_row Tryz.results82 _ _ (w.heap.size + 1) _ (rd q) _ _ rfl (setRow_heap _ _ _ _ _ _ rZ) Tryz.underlying101 rfl (rd_info q)) rfl ⟨rfl, below_setRow hbw (by omega) _⟩
end Go.Proofs.YtgbkbcgjagcgbaaGreatDoor.Lo
namespace Go.Proofs.YtgbkbcgjagcgbaaGreatDoor.Lo
set_option maxRecDepth 100000
open Go.RowKit Go.Sort
attribute [local go_sem] setCell_drewN alloc_drewN
set_option maxHeartbeats 4000000 in
theorem refAdd_any (x0 x1 x2 x3 x4 x5 x6 x7 x8 x9 x10 x11 x12 x13 x14 x15 y0 y1 y2 y3 y4 y5 y6 y7 y8 y9 y10 y11 y12 y13 y14 y15 : Int) (l0 : 0 ≤ x0) (u0 : x0 < 65536) (l1 : 0 ≤ x1) (u1 : x1 < 65536) (l2 : 0 ≤ x2) (u2 : x2 < 65536) (l3 : 0 ≤ x3) (u3 : x3 < 65536) (l4 : 0 ≤ x4) (u4 : x4 < 65536) (l5 : 0 ≤ x5) (u5 : x5 < 65536) (l6 : 0 ≤ x6) (u6 : x6 < 65536) (l7 : 0 ≤ x7) (u7 : x7 < 65536) (l8 : 0 ≤ x8) (u8 : x8 < 65536) (l9 : 0 ≤ x9) (u9 : x9 < 65536) (l10 : 0 ≤ x10) (u10 : x10 < 65536) (l11 : 0 ≤ x11) (u11 : x11 < 65536) (l12 : 0 ≤ x12) (u12 : x12 < 65536) (l13 : 0 ≤ x13) (u13 : x13 < 65536) (l14 : 0 ≤ x14) (u14 : x14 < 65536) (l15 : 0 ≤ x15) (u15 : x15 < 65536) (ly0 : 0 ≤ y0) (uy0 : y0 < 65536) (ly1 : 0 ≤ y1) (uy1 : y1 < 65536) (ly2 : 0 ≤ y2) (uy2 : y2 < 65536) (ly3 : 0 ≤ y3) (uy3 : y3 < 65536) (ly4 : 0 ≤ y4) (uy4 : y4 < 65536) (ly5 : 0 ≤ y5) (uy5 : y5 < 65536) (ly6 : 0 ≤ y6) (uy6 : y6 < 65536) (ly7 : 0 ≤ y7) (uy7 : y7 < 65536) (ly8 : 0 ≤ y8) (uy8 : y8 < 65536) (ly9 : 0 ≤ y9) (uy9 : y9 < 65536) (ly10 : 0 ≤ y10) (uy10 : y10 < 65536) (ly11 : 0 ≤ y11) (uy11 : y11 < 65536) (ly12 : 0 ≤ y12) (uy12 : y12 < 65536) (ly13 : 0 ≤ y13) (uy13 : y13 < 65536) (ly14 : 0 ≤ y14) (uy14 : y14 < 65536) (ly15 : 0 ≤ y15) (uy15 : y15 < 65536) (w : World) :
   Calls Tryz.prog 80 #[.agg #[.int .u64 x0, .int .u64 x1, .int .u64 x2, .int .u64 x3, .int .u64 x4, .int .u64 x5, .int .u64 x6, .int .u64 x7, .int .u64 x8, .int .u64 x9, .int .u64 x10, .int .u64 x11, .int .u64 x12, .int .u64 x13, .int .u64 x14, .int .u64 x15], .agg #[.int .u64 y0, .int .u64 y1, .int .u64 y2, .int .u64 y3, .int .u64 y4, .int .u64 y5, .int .u64 y6, .int .u64 y7, .int .u64 y8, .int .u64 y9, .int .u64 y10, .int .u64 y11, .int .u64 y12, .int .u64 y13, .int .u64 y14, .int .u64 y15]] w fun e w' => e = .returned (.agg #[.int .u64 (dg ((v16 x0 x1 x2 x3 x4 x5 x6 x7 x8 x9 x10 x11 x12 x13 x14 x15 + v16 y0 y1 y2 y3 y4 y5 y6 y7 y8 y9 y10 y11 y12 y13 y14 y15) % prm) 0), .int .u64 (dg ((v16 x0 x1 x2 x3 x4 x5 x6 x7 x8 x9 x10 x11 x12 x13 x14 x15 + v16 y0 y1 y2 y3 y4 y5 y6 y7 y8 y9 y10 y11 y12 y13 y14 y15) % prm) 1), .int .u64 (dg ((v16 x0 x1 x2 x3 x4 x5 x6 x7 x8 x9 x10 x11 x12 x13 x14 x15 + v16 y0 y1 y2 y3 y4 y5 y6 y7 y8 y9 y10 y11 y12 y13 y14 y15) % prm) 2), .int .u64 (dg ((v16 x0 x1 x2 x3 x4 x5 x6 x7 x8 x9 x10 x11 x12 x13 x14 x15 + v16 y0 y1 y2 y3 y4 y5 y6 y7 y8 y9 y10 y11 y12 y13 y14 y15) % prm) 3), .int .u64 (dg ((v16 x0 x1 x2 x3 x4 x5 x6 x7 x8 x9 x10 x11 x12 x13 x14 x15 + v16 y0 y1 y2 y3 y4 y5 y6 y7 y8 y9 y10 y11 y12 y13 y14 y15) % prm) 4), .int .u64 (dg ((v16 x0 x1 x2 x3 x4 x5 x6 x7 x8 x9 x10 x11 x12 x13 x14 x15 + v16 y0 y1 y2 y3 y4 y5 y6 y7 y8 y9 y10 y11 y12 y13 y14 y15) % prm) 5), .int .u64 (dg ((v16 x0 x1 x2 x3 x4 x5 x6 x7 x8 x9 x10 x11 x12 x13 x14 x15 + v16 y0 y1 y2 y3 y4 y5 y6 y7 y8 y9 y10 y11 y12 y13 y14 y15) % prm) 6), .int .u64 (dg ((v16 x0 x1 x2 x3 x4 x5 x6 x7 x8 x9 x10 x11 x12 x13 x14 x15 + v16 y0 y1 y2 y3 y4 y5 y6 y7 y8 y9 y10 y11 y12 y13 y14 y15) % prm) 7), .int .u64 (dg ((v16 x0 x1 x2 x3 x4 x5 x6 x7 x8 x9 x10 x11 x12 x13 x14 x15 + v16 y0 y1 y2 y3 y4 y5 y6 y7 y8 y9 y10 y11 y12 y13 y14 y15) % prm) 8), .int .u64 (dg ((v16 x0 x1 x2 x3 x4 x5 x6 x7 x8 x9 x10 x11 x12 x13 x14 x15 + v16 y0 y1 y2 y3 y4 y5 y6 y7 y8 y9 y10 y11 y12 y13 y14 y15) % prm) 9), .int .u64 (dg ((v16 x0 x1 x2 x3 x4 x5 x6 x7 x8 x9 x10 x11 x12 x13 x14 x15 + v16 y0 y1 y2 y3 y4 y5 y6 y7 y8 y9 y10 y11 y12 y13 y14 y15) % prm) 10), .int .u64 (dg ((v16 x0 x1 x2 x3 x4 x5 x6 x7 x8 x9 x10 x11 x12 x13 x14 x15 + v16 y0 y1 y2 y3 y4 y5 y6 y7 y8 y9 y10 y11 y12 y13 y14 y15) % prm) 11), .int .u64 (dg ((v16 x0 x1 x2 x3 x4 x5 x6 x7 x8 x9 x10 x11 x12 x13 x14 x15 + v16 y0 y1 y2 y3 y4 y5 y6 y7 y8 y9 y10 y11 y12 y13 y14 y15) % prm) 12), .int .u64 (dg ((v16 x0 x1 x2 x3 x4 x5 x6 x7 x8 x9 x10 x11 x12 x13 x14 x15 + v16 y0 y1 y2 y3 y4 y5 y6 y7 y8 y9 y10 y11 y12 y13 y14 y15) % prm) 13), .int .u64 (dg ((v16 x0 x1 x2 x3 x4 x5 x6 x7 x8 x9 x10 x11 x12 x13 x14 x15 + v16 y0 y1 y2 y3 y4 y5 y6 y7 y8 y9 y10 y11 y12 y13 y14 y15) % prm) 14), .int .u64 (dg ((v16 x0 x1 x2 x3 x4 x5 x6 x7 x8 x9 x10 x11 x12 x13 x14 x15 + v16 y0 y1 y2 y3 y4 y5 y6 y7 y8 y9 y10 y11 y12 y13 y14 y15) % prm) 15)]) ∧ Below w.heap.size w w' := by
 have c := fun W => settle_any (x0 + y0) (x1 + y1) (x2 + y2) (x3 + y3) (x4 + y4) (x5 + y5) (x6 + y6) (x7 + y7) (x8 + y8) (x9 + y9) (x10 + y10) (x11 + y11) (x12 + y12) (x13 + y13) (x14 + y14) (x15 + y15) (by omega) (by omega) (by omega) (by omega) (by omega) (by omega) (by omega) (by omega) (by omega) (by omega) (by omega) (by omega) (by omega) (by omega) (by omega) (by omega) (by omega) (by omega) (by omega) (by omega) (by omega) (by omega) (by omega) (by omega) (by omega) (by omega) (by omega) (by omega) (by omega) (by omega) (by omega) (by omega) W
 have ev : v16 (x0 + y0) (x1 + y1) (x2 + y2) (x3 + y3) (x4 + y4) (x5 + y5) (x6 + y6) (x7 + y7) (x8 + y8) (x9 + y9) (x10 + y10) (x11 + y11) (x12 + y12) (x13 + y13) (x14 + y14) (x15 + y15) = v16 x0 x1 x2 x3 x4 x5 x6 x7 x8 x9 x10 x11 x12 x13 x14 x15 + v16 y0 y1 y2 y3 y4 y5 y6 y7 y8 y9 y10 y11 y12 y13 y14 y15 := by simp only [v16, valL]; omega
 rw [ev] at c
 have C := hide c
 clear c ev
 generalize (v16 x0 x1 x2 x3 x4 x5 x6 x7 x8 x9 x10 x11 x12 x13 x14 x15 + v16 y0 y1 y2 y3 y4 y5 y6 y7 y8 y9 y10 y11 y12 y13 y14 y15) % prm = q at *
 go_enter Tryz.func80, Tryz.ntmps80
 go_wp2
 refine wp_loop_rounds 17 ?_
 rw [rounds_succ]
 go_wp2
 refine wp_region_tail (C := fun w' => ∃ n, w' = World.drewN _ n) 11 _ rfl rfl rfl (by kernel_rfl) (by kernel_rfl) (by kernel_rfl) (by kernel_rfl) ⟨1, rfl⟩ ?_
 dsimp only [List.set, idle]
 repeat (go_big_quiet_step (fail))
 first | refine wpQuiet_nil ?_ | refine wpQuiet_idle rfl rfl rfl ?_
 rintro _ ⟨n0, rfl⟩
 go_wp2
 rw [rounds_succ]
 go_wp2
 refine wp_region_tail (C := fun w' => ∃ n, w' = World.drewN _ n) 11 _ rfl rfl rfl (by kernel_rfl) (by kernel_rfl) (by kernel_rfl) (by kernel_rfl) ⟨1, rfl⟩ ?_
 dsimp only [List.set, idle]
 repeat (go_big_quiet_step (fail))
 first | refine wpQuiet_nil ?_ | refine wpQuiet_idle rfl rfl rfl ?_
 rintro _ ⟨n1, rfl⟩
 go_wp2
 rw [rounds_succ]
 go_wp2
 refine wp_region_tail (C := fun w' => ∃ n, w' = World.drewN _ n) 11 _ rfl rfl rfl (by kernel_rfl) (by kernel_rfl) (by kernel_rfl) (by kernel_rfl) ⟨1, rfl⟩ ?_
 dsimp only [List.set, idle]
 repeat (go_big_quiet_step (fail))
 first | refine wpQuiet_nil ?_ | refine wpQuiet_idle rfl rfl rfl ?_
 rintro _ ⟨n2, rfl⟩
 go_wp2
 rw [rounds_succ]
 go_wp2
 refine wp_region_tail (C := fun w' => ∃ n, w' = World.drewN _ n) 11 _ rfl rfl rfl (by kernel_rfl) (by kernel_rfl) (by kernel_rfl) (by kernel_rfl) ⟨1, rfl⟩ ?_
 dsimp only [List.set, idle]
 repeat (go_big_quiet_step (fail))
 first | refine wpQuiet_nil ?_ | refine wpQuiet_idle rfl rfl rfl ?_
 rintro _ ⟨n3, rfl⟩
 go_wp2
 rw [rounds_succ]
 go_wp2
 refine wp_region_tail (C := fun w' => ∃ n, w' = World.drewN _ n) 11 _ rfl rfl rfl (by kernel_rfl) (by kernel_rfl) (by kernel_rfl) (by kernel_rfl) ⟨1, rfl⟩ ?_
 dsimp only [List.set, idle]
 repeat (go_big_quiet_step (fail))
 first | refine wpQuiet_nil ?_ | refine wpQuiet_idle rfl rfl rfl ?_
 rintro _ ⟨n4, rfl⟩
 go_wp2
 rw [rounds_succ]
 go_wp2
 refine wp_region_tail (C := fun w' => ∃ n, w' = World.drewN _ n) 11 _ rfl rfl rfl (by kernel_rfl) (by kernel_rfl) (by kernel_rfl) (by kernel_rfl) ⟨1, rfl⟩ ?_
 dsimp only [List.set, idle]
 repeat (go_big_quiet_step (fail))
 first | refine wpQuiet_nil ?_ | refine wpQuiet_idle rfl rfl rfl ?_
 rintro _ ⟨n5, rfl⟩
 go_wp2
 rw [rounds_succ]
 go_wp2
 refine wp_region_tail (C := fun w' => ∃ n, w' = World.drewN _ n) 11 _ rfl rfl rfl (by kernel_rfl) (by kernel_rfl) (by kernel_rfl) (by kernel_rfl) ⟨1, rfl⟩ ?_
 dsimp only [List.set, idle]
 repeat (go_big_quiet_step (fail))
 first | refine wpQuiet_nil ?_ | refine wpQuiet_idle rfl rfl rfl ?_
 rintro _ ⟨n6, rfl⟩
 go_wp2
 rw [rounds_succ]
 go_wp2
 refine wp_region_tail (C := fun w' => ∃ n, w' = World.drewN _ n) 11 _ rfl rfl rfl (by kernel_rfl) (by kernel_rfl) (by kernel_rfl) (by kernel_rfl) ⟨1, rfl⟩ ?_
 dsimp only [List.set, idle]
 repeat (go_big_quiet_step (fail))
 first | refine wpQuiet_nil ?_ | refine wpQuiet_idle rfl rfl rfl ?_
 rintro _ ⟨n7, rfl⟩
 go_wp2
 rw [rounds_succ]
 go_wp2
 refine wp_region_tail (C := fun w' => ∃ n, w' = World.drewN _ n) 11 _ rfl rfl rfl (by kernel_rfl) (by kernel_rfl) (by kernel_rfl) (by kernel_rfl) ⟨1, rfl⟩ ?_
 dsimp only [List.set, idle]
 repeat (go_big_quiet_step (fail))
 first | refine wpQuiet_nil ?_ | refine wpQuiet_idle rfl rfl rfl ?_
 rintro _ ⟨n8, rfl⟩
 go_wp2
 rw [rounds_succ]
 go_wp2
 refine wp_region_tail (C := fun w' => ∃ n, w' = World.drewN _ n) 11 _ rfl rfl rfl (by kernel_rfl) (by kernel_rfl) (by kernel_rfl) (by kernel_rfl) ⟨1, rfl⟩ ?_
 dsimp only [List.set, idle]
 repeat (go_big_quiet_step (fail))
 first | refine wpQuiet_nil ?_ | refine wpQuiet_idle rfl rfl rfl ?_
 rintro _ ⟨n9, rfl⟩
 go_wp2
 rw [rounds_succ]
 go_wp2
 refine wp_region_tail (C := fun w' => ∃ n, w' = World.drewN _ n) 11 _ rfl rfl rfl (by kernel_rfl) (by kernel_rfl) (by kernel_rfl) (by kernel_rfl) ⟨1, rfl⟩ ?_
 dsimp only [List.set, idle]
 repeat (go_big_quiet_step (fail))
 first | refine wpQuiet_nil ?_ | refine wpQuiet_idle rfl rfl rfl ?_
 rintro _ ⟨n10, rfl⟩
 go_wp2
 rw [rounds_succ]
 go_wp2
 refine wp_region_tail (C := fun w' => ∃ n, w' = World.drewN _ n) 11 _ rfl rfl rfl (by kernel_rfl) (by kernel_rfl) (by kernel_rfl) (by kernel_rfl) ⟨1, rfl⟩ ?_
 dsimp only [List.set, idle]
 repeat (go_big_quiet_step (fail))
 first | refine wpQuiet_nil ?_ | refine wpQuiet_idle rfl rfl rfl ?_
 rintro _ ⟨n11, rfl⟩
 go_wp2
 rw [rounds_succ]
 go_wp2
 refine wp_region_tail (C := fun w' => ∃ n, w' = World.drewN _ n) 11 _ rfl rfl rfl (by kernel_rfl) (by kernel_rfl) (by kernel_rfl) (by kernel_rfl) ⟨1, rfl⟩ ?_
 dsimp only [List.set, idle]
 repeat (go_big_quiet_step (fail))
 first | refine wpQuiet_nil ?_ | refine wpQuiet_idle rfl rfl rfl ?_
 rintro _ ⟨n12, rfl⟩
 go_wp2
 rw [rounds_succ]
 go_wp2
 refine wp_region_tail (C := fun w' => ∃ n, w' = World.drewN _ n) 11 _ rfl rfl rfl (by kernel_rfl) (by kernel_rfl) (by kernel_rfl) (by kernel_rfl) ⟨1, rfl⟩ ?_
 dsimp only [List.set, idle]
 repeat (go_big_quiet_step (fail))
 first | refine wpQuiet_nil ?_ | refine wpQuiet_idle rfl rfl rfl ?_
 rintro _ ⟨n13, rfl⟩
 go_wp2
 rw [rounds_succ]
 go_wp2
 refine wp_region_tail (C := fun w' => ∃ n, w' = World.drewN _ n) 11 _ rfl rfl rfl (by kernel_rfl) (by kernel_rfl) (by kernel_rfl) (by kernel_rfl) ⟨1, rfl⟩ ?_
 dsimp only [List.set, idle]
 repeat (go_big_quiet_step (fail))
 first | refine wpQuiet_nil ?_ | refine wpQuiet_idle rfl rfl rfl ?_
 rintro _ ⟨n14, rfl⟩
 go_wp2
 rw [rounds_succ]
 go_wp2
 refine wp_region_tail (C := fun w' => ∃ n, w' = World.drewN _ n) 11 _ rfl rfl rfl (by kernel_rfl) (by kernel_rfl) (by kernel_rfl) (by kernel_rfl) ⟨1, rfl⟩ ?_
 dsimp only [List.set, idle]
 repeat (go_big_quiet_step (fail))
 first | refine wpQuiet_nil ?_ | refine wpQuiet_idle rfl rfl rfl ?_
 rintro _ ⟨n15, rfl⟩
 go_wp2
 rw [rounds_succ]
 go_wp2_with (first | (refine wpList_load_row rfl 99 _ rfl (w.heap.size + 1 + 1 + 1) rfl 99 #[.int .u64 (x0 + y0), .int .u64 (x1 + y1), .int .u64 (x2 + y2), .int .u64 (x3 + y3), .int .u64 (x4 + y4), .int .u64 (x5 + y5), .int .u64 (x6 + y6), .int .u64 (x7 + y7), .int .u64 (x8 + y8), .int .u64 (x9 + y9), .int .u64 (x10 + y10), .int .u64 (x11 + y11), .int .u64 (x12 + y12), .int .u64 (x13 + y13), .int .u64 (x14 + y14), .int .u64 (x15 + y15)] (0, 0) _ (by rw [World.heap_drewN, hp4_3]) Tryz.underlying99 rfl (by kernel_rfl) ?_) | fail)
 refine (C.out _).mono ?_
 rintro e w1 ⟨rfl, hb⟩
 have rZ : w1.heap[w.heap.size + 1 + 1]? = some (.cells #[.int .u64 0, .int .u64 0, .int .u64 0, .int .u64 0, .int .u64 0, .int .u64 0, .int .u64 0, .int .u64 0, .int .u64 0, .int .u64 0, .int .u64 0, .int .u64 0, .int .u64 0, .int .u64 0, .int .u64 0, .int .u64 0] 101 (0, 0)) := (hb.block _ (by simp)).trans (by rw [World.heap_drewN, hp4_2])
 have hbw : Below w.heap.size w w1 := (below_drN (((((Below.refl _ _).alloc (Nat.le_refl _) _).alloc (by simp) _).alloc (by simp; omega) _).alloc (by simp; omega) _) _).trans (hb.mono (by simp; omega))
 clear hb
 go_wp2_with (first | (refine wpList_store_row rfl 101 _ _ rfl (w.heap.size + 1 + 1) (rd q) rfl rfl 101 _ rZ (rd_info q) rfl (rd_one q) ?_) | fail)
 exact bodyPost_ret (v := .agg (rd q)) (results_cell_row Tryz.results80 _ _ (w.heap.size + 1 + 1) _ (rd q) _ _ rfl (setRow_heap _ _ _ _ _ _ rZ) Tryz.underlying101 rfl (rd_info q)) rfl ⟨rfl, below_setRow hbw (by omega) _⟩
theorem v16_dg (m : Int) (h : inP m) : v16 (dg m 0) (dg m 1) (dg m 2) (dg m 3) (dg m 4) (dg m 5) (dg m 6) (dg m 7) (dg m 8) (dg m 9) (dg m 10) (dg m 11) (dg m 12) (dg m 13) (dg m 14) (dg m 15) = m := by
 obtain ⟨h0, h1⟩ := h
 rw [← sumN_v16]
 exact sumN_dg m h0 (by unfold prm at h1; omega)
theorem r_add {m q : Int} (h : inP m) (g : inP q) : Gives 80 #[.agg (rd m), .agg (rd q)] (.agg (rd ((m + q) % prm))) := fun W => by
 have c := refAdd_any (dg m 0) (dg m 1) (dg m 2) (dg m 3) (dg m 4) (dg m 5) (dg m 6) (dg m 7) (dg m 8) (dg m 9) (dg m 10) (dg m 11) (dg m 12) (dg m 13) (dg m 14) (dg m 15) (dg q 0) (dg q 1) (dg q 2) (dg q 3) (dg q 4) (dg q 5) (dg q 6) (dg q 7) (dg q 8) (dg q 9) (dg q 10) (dg q 11) (dg q 12) (dg q 13) (dg q 14) (dg q 15) (dg_bd m 0).1 (dg_bd m 0).2 (dg_bd m 1).1 (dg_bd m 1).2 (dg_bd m 2).1 (dg_bd m 2).2 (dg_bd m 3).1 (dg_bd m 3).2 (dg_bd m 4).1 (dg_bd m 4).2 (dg_bd m 5).1 (dg_bd m 5).2 (dg_bd m 6).1 (dg_bd m 6).2 (dg_bd m 7).1 (dg_bd m 7).2 (dg_bd m 8).1 (dg_bd m 8).2 (dg_bd m 9).1 (dg_bd m 9).2 (dg_bd m 10).1 (dg_bd m 10).2 (dg_bd m 11).1 (dg_bd m 11).2 (dg_bd m 12).1 (dg_bd m 12).2 (dg_bd m 13).1 (dg_bd m 13).2 (dg_bd m 14).1 (dg_bd m 14).2 (dg_bd m 15).1 (dg_bd m 15).2 (dg_bd q 0).1 (dg_bd q 0).2 (dg_bd q 1).1 (dg_bd q 1).2 (dg_bd q 2).1 (dg_bd q 2).2 (dg_bd q 3).1 (dg_bd q 3).2 (dg_bd q 4).1 (dg_bd q 4).2 (dg_bd q 5).1 (dg_bd q 5).2 (dg_bd q 6).1 (dg_bd q 6).2 (dg_bd q 7).1 (dg_bd q 7).2 (dg_bd q 8).1 (dg_bd q 8).2 (dg_bd q 9).1 (dg_bd q 9).2 (dg_bd q 10).1 (dg_bd q 10).2 (dg_bd q 11).1 (dg_bd q 11).2 (dg_bd q 12).1 (dg_bd q 12).2 (dg_bd q 13).1 (dg_bd q 13).2 (dg_bd q 14).1 (dg_bd q 14).2 (dg_bd q 15).1 (dg_bd q 15).2 W
 rw [v16_dg m h, v16_dg q g] at c
 exact c
end Go.Proofs.YtgbkbcgjagcgbaaGreatDoor.Lo
