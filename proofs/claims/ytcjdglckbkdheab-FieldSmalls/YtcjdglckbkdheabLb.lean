import Derived.Test.YtcjdglckbkdheabProg
import Derived.WalkKit
import Derived.WalkSpells
import Derived.WalkLawsBesides
import Derived.Lib.QuietBelow
import Derived.BigQuiet
import Derived.Test.YtcjdglckbkdheabKit
import Derived.Test.YtcjdglckbkdheabKit3
import Derived.Test.YtcjdglckbkdheabLa
import Derived.Test.YtcjdglckbkdheabFe
import Derived.Test.YtcjdglckbkdheabFf
namespace Go.Proofs.Ytcjdglckbkdheab
open Go.RowKit Go.Sort
attribute [local go_sem] setCell_drewN alloc_drewN


theorem v5_smul (a0 a1 a2 a3 a4 m : Int) : v5 (a0 * m) (a1 * m) (a2 * m) (a3 * m) (a4 * m) = v5 a0 a1 a2 a3 a4 * m := by
  simp only [v5, Int.add_mul, Int.mul_assoc]

set_option maxHeartbeats 2000000 in
theorem smalls_any (k m : Int) (h0 : 0 ≤ k) (h1 : k < 18446744073709551616) (lm : 0 ≤ m) (um : m < 4294967296) (w : World) :
    Calls Try.prog 4 #[.int .u64 k, .int .u32 m] w fun e w' => e = .returned (.bool true) ∧ Below w.heap.size w w' := by
  have hkp : k % prm = k := Int.emod_eq_of_lt h0 (by unfold prm; omega)
  have c1 := fun W => small_any k h0 h1 W
  have c2 := fun W => refSmall_any k h0 h1 W
  have c3 := fun W => bytes_any (k % 2251799813685248) (k / 2251799813685248) 0 0 0 (by omega) (by omega) (by omega) (by omega) (by omega) (by omega) (by omega) (by omega) (by omega) (by omega) W
  rw [small_val, hkp] at c3
  have c4 := fun W => refBytes_dg k W
  have c5 := fun W => times_any (k % 2251799813685248) (k / 2251799813685248) 0 0 0 m (by omega) (by omega) (by omega) (by omega) (by omega) (by omega) (by omega) (by omega) (by omega) (by omega) lm um W
  have p0 := mul_bd (k % 2251799813685248) m 2251799813685248 4294967296 (by omega) (by omega) lm (by omega)
  have p1 := mul_bd (k / 2251799813685248) m 2251799813685248 4294967296 (by omega) (by omega) lm (by omega)
  obtain ⟨⟨b0, d0⟩, ⟨b1, d1⟩, ⟨b2, d2⟩, ⟨b3, d3⟩, b4, d4⟩ := jn_bd ((k % 2251799813685248) * m) ((k / 2251799813685248) * m) (0 * m) (0 * m) (0 * m) (by omega) (by omega) (by omega) (by omega) (by omega) (by omega) (by omega) (by omega) (by omega) (by omega)
  have c6 := fun W => bytes_any (jn 0 ((k % 2251799813685248) * m) ((k / 2251799813685248) * m) (0 * m) (0 * m) (0 * m)) (jn 1 ((k % 2251799813685248) * m) ((k / 2251799813685248) * m) (0 * m) (0 * m) (0 * m)) (jn 2 ((k % 2251799813685248) * m) ((k / 2251799813685248) * m) (0 * m) (0 * m) (0 * m)) (jn 3 ((k % 2251799813685248) * m) ((k / 2251799813685248) * m) (0 * m) (0 * m) (0 * m)) (jn 4 ((k % 2251799813685248) * m) ((k / 2251799813685248) * m) (0 * m) (0 * m) (0 * m)) b0 d0 b1 d1 b2 d2 b3 d3 b4 d4 W
  rw [jn_val, v5_smul, small_val] at c6
  have c7 := fun W => refTimes_any k m h0 (by unfold prm; omega) lm um W
  have c8 := fun W => refBytes_dg (k * m % prm) W
  generalize k * m % prm = q at *
  generalize jn 0 ((k % 2251799813685248) * m) ((k / 2251799813685248) * m) (0 * m) (0 * m) (0 * m) = j0 at *; generalize jn 1 ((k % 2251799813685248) * m) ((k / 2251799813685248) * m) (0 * m) (0 * m) (0 * m) = j1 at *; generalize jn 2 ((k % 2251799813685248) * m) ((k / 2251799813685248) * m) (0 * m) (0 * m) (0 * m) = j2 at *; generalize jn 3 ((k % 2251799813685248) * m) ((k / 2251799813685248) * m) (0 * m) (0 * m) (0 * m) = j3 at *; generalize jn 4 ((k % 2251799813685248) * m) ((k / 2251799813685248) * m) (0 * m) (0 * m) (0 * m) = j4 at *
  have C1 := hide c1; have C2 := hide c2; have C3 := hide c3; have C4 := hide c4; have C5 := hide c5; have C6 := hide c6; have C7 := hide c7; have C8 := hide c8
  clear c1 c2 c3 c4 c5 c6 c7 c8 p0 p1 b0 d0 b1 d1 b2 d2 b3 d3 b4 d4 hkp lm um
  have heq1 : ∀ W, (Op.equalIn 10000 23 (.agg #[.int .u8 (byt (k) 0), .int .u8 (byt (k) 1), .int .u8 (byt (k) 2), .int .u8 (byt (k) 3), .int .u8 (byt (k) 4), .int .u8 (byt (k) 5), .int .u8 (byt (k) 6), .int .u8 (byt (k) 7), .int .u8 (byt (k) 8), .int .u8 (byt (k) 9), .int .u8 (byt (k) 10), .int .u8 (byt (k) 11), .int .u8 (byt (k) 12), .int .u8 (byt (k) 13), .int .u8 (byt (k) 14), .int .u8 (byt (k) 15), .int .u8 (byt (k) 16), .int .u8 (byt (k) 17), .int .u8 (byt (k) 18), .int .u8 (byt (k) 19), .int .u8 (byt (k) 20), .int .u8 (byt (k) 21), .int .u8 (byt (k) 22), .int .u8 (byt (k) 23), .int .u8 (byt (k) 24), .int .u8 (byt (k) 25), .int .u8 (byt (k) 26), .int .u8 (byt (k) 27), .int .u8 (byt (k) 28), .int .u8 (byt (k) 29), .int .u8 (byt (k) 30), .int .u8 (byt (k) 31)]) (.agg #[.int .u8 (byt (k) 0), .int .u8 (byt (k) 1), .int .u8 (byt (k) 2), .int .u8 (byt (k) 3), .int .u8 (byt (k) 4), .int .u8 (byt (k) 5), .int .u8 (byt (k) 6), .int .u8 (byt (k) 7), .int .u8 (byt (k) 8), .int .u8 (byt (k) 9), .int .u8 (byt (k) 10), .int .u8 (byt (k) 11), .int .u8 (byt (k) 12), .int .u8 (byt (k) 13), .int .u8 (byt (k) 14), .int .u8 (byt (k) 15), .int .u8 (byt (k) 16), .int .u8 (byt (k) 17), .int .u8 (byt (k) 18), .int .u8 (byt (k) 19), .int .u8 (byt (k) 20), .int .u8 (byt (k) 21), .int .u8 (byt (k) 22), .int .u8 (byt (k) 23), .int .u8 (byt (k) 24), .int .u8 (byt (k) 25), .int .u8 (byt (k) 26), .int .u8 (byt (k) 27), .int .u8 (byt (k) 28), .int .u8 (byt (k) 29), .int .u8 (byt (k) 30), .int .u8 (byt (k) 31)])).run Try.prog W = .ok true W := fun W => by rw [keys_equal]; simp
  have heq2 : ∀ W, (Op.equalIn 10000 23 (.agg #[.int .u8 (byt (q) 0), .int .u8 (byt (q) 1), .int .u8 (byt (q) 2), .int .u8 (byt (q) 3), .int .u8 (byt (q) 4), .int .u8 (byt (q) 5), .int .u8 (byt (q) 6), .int .u8 (byt (q) 7), .int .u8 (byt (q) 8), .int .u8 (byt (q) 9), .int .u8 (byt (q) 10), .int .u8 (byt (q) 11), .int .u8 (byt (q) 12), .int .u8 (byt (q) 13), .int .u8 (byt (q) 14), .int .u8 (byt (q) 15), .int .u8 (byt (q) 16), .int .u8 (byt (q) 17), .int .u8 (byt (q) 18), .int .u8 (byt (q) 19), .int .u8 (byt (q) 20), .int .u8 (byt (q) 21), .int .u8 (byt (q) 22), .int .u8 (byt (q) 23), .int .u8 (byt (q) 24), .int .u8 (byt (q) 25), .int .u8 (byt (q) 26), .int .u8 (byt (q) 27), .int .u8 (byt (q) 28), .int .u8 (byt (q) 29), .int .u8 (byt (q) 30), .int .u8 (byt (q) 31)]) (.agg #[.int .u8 (byt (q) 0), .int .u8 (byt (q) 1), .int .u8 (byt (q) 2), .int .u8 (byt (q) 3), .int .u8 (byt (q) 4), .int .u8 (byt (q) 5), .int .u8 (byt (q) 6), .int .u8 (byt (q) 7), .int .u8 (byt (q) 8), .int .u8 (byt (q) 9), .int .u8 (byt (q) 10), .int .u8 (byt (q) 11), .int .u8 (byt (q) 12), .int .u8 (byt (q) 13), .int .u8 (byt (q) 14), .int .u8 (byt (q) 15), .int .u8 (byt (q) 16), .int .u8 (byt (q) 17), .int .u8 (byt (q) 18), .int .u8 (byt (q) 19), .int .u8 (byt (q) 20), .int .u8 (byt (q) 21), .int .u8 (byt (q) 22), .int .u8 (byt (q) 23), .int .u8 (byt (q) 24), .int .u8 (byt (q) 25), .int .u8 (byt (q) 26), .int .u8 (byt (q) 27), .int .u8 (byt (q) 28), .int .u8 (byt (q) 29), .int .u8 (byt (q) 30), .int .u8 (byt (q) 31)])).run Try.prog W = .ok true W := fun W => by rw [keys_equal]; simp
  go_enter Try.func4, Try.ntmps4
  go_wp2_with fail
  refine (C1.out _).mono ?_
  rintro e w1 ⟨rfl, hb1⟩
  go_wp2_with fail
  refine (lift_calls hb1 (C2.out _)).mono ?_
  rintro e w2 ⟨rfl, hb2⟩
  clear hb1 h0 h1
  go_wp2_with (first | (refine wpList_store_row rfl 27 _ _ rfl w2.heap.size #[.int .u64 (k % 2251799813685248), .int .u64 (k / 2251799813685248), .int .u64 0, .int .u64 0, .int .u64 0] rfl rfl 27 _ (hp2_0 w2 _ _) (by kernel_rfl) rfl (by kernel_rfl) ?_; rw [setRow_alloc_old _ _ _ _ (by simp), setRow_alloc_new _ _ _ _ _ _ (by simp)]) | (refine wpList_store_row rfl 32 _ _ rfl (w2.heap.size + 1) #[.int .u64 (dg (k) 0), .int .u64 (dg (k) 1), .int .u64 (dg (k) 2), .int .u64 (dg (k) 3), .int .u64 (dg (k) 4), .int .u64 (dg (k) 5), .int .u64 (dg (k) 6), .int .u64 (dg (k) 7), .int .u64 (dg (k) 8), .int .u64 (dg (k) 9), .int .u64 (dg (k) 10), .int .u64 (dg (k) 11), .int .u64 (dg (k) 12), .int .u64 (dg (k) 13), .int .u64 (dg (k) 14), .int .u64 (dg (k) 15)] rfl rfl 32 _ (hp2_1 w2 _ _) (by kernel_rfl) rfl (by kernel_rfl) ?_; rw [setRow_alloc_new _ _ _ _ _ _ (by simp)]) | fail)
  have h5 : ∀ W, (∃ p : Regrown, W = grow (redrawn ((w2.alloc (.cells #[.int .u64 (k % 2251799813685248), .int .u64 (k / 2251799813685248), .int .u64 0, .int .u64 0, .int .u64 0] 27)).alloc (.cells #[.int .u64 (dg (k) 0), .int .u64 (dg (k) 1), .int .u64 (dg (k) 2), .int .u64 (dg (k) 3), .int .u64 (dg (k) 4), .int .u64 (dg (k) 5), .int .u64 (dg (k) 6), .int .u64 (dg (k) 7), .int .u64 (dg (k) 8), .int .u64 (dg (k) 9), .int .u64 (dg (k) 10), .int .u64 (dg (k) 11), .int .u64 (dg (k) 12), .int .u64 (dg (k) 13), .int .u64 (dg (k) 14), .int .u64 (dg (k) 15)] 32)) p.d) p.os) → W.heap[w2.heap.size]? = some (.cells #[.int .u64 (k % 2251799813685248), .int .u64 (k / 2251799813685248), .int .u64 0, .int .u64 0, .int .u64 0] 27 (0, 0)) := by
    rintro _ ⟨p, rfl⟩; exact ((below_regrown _ p.d p.os).block _ (by simp; omega)).trans (hp2_0 w2 _ _)
  have h6 : ∀ W, (∃ p : Regrown, W = grow (redrawn ((w2.alloc (.cells #[.int .u64 (k % 2251799813685248), .int .u64 (k / 2251799813685248), .int .u64 0, .int .u64 0, .int .u64 0] 27)).alloc (.cells #[.int .u64 (dg (k) 0), .int .u64 (dg (k) 1), .int .u64 (dg (k) 2), .int .u64 (dg (k) 3), .int .u64 (dg (k) 4), .int .u64 (dg (k) 5), .int .u64 (dg (k) 6), .int .u64 (dg (k) 7), .int .u64 (dg (k) 8), .int .u64 (dg (k) 9), .int .u64 (dg (k) 10), .int .u64 (dg (k) 11), .int .u64 (dg (k) 12), .int .u64 (dg (k) 13), .int .u64 (dg (k) 14), .int .u64 (dg (k) 15)] 32)) p.d) p.os) → W.heap[w2.heap.size + 1]? = some (.cells #[.int .u64 (dg (k) 0), .int .u64 (dg (k) 1), .int .u64 (dg (k) 2), .int .u64 (dg (k) 3), .int .u64 (dg (k) 4), .int .u64 (dg (k) 5), .int .u64 (dg (k) 6), .int .u64 (dg (k) 7), .int .u64 (dg (k) 8), .int .u64 (dg (k) 9), .int .u64 (dg (k) 10), .int .u64 (dg (k) 11), .int .u64 (dg (k) 12), .int .u64 (dg (k) 13), .int .u64 (dg (k) 14), .int .u64 (dg (k) 15)] 32 (0, 0)) := by
    rintro _ ⟨p, rfl⟩; exact ((below_regrown _ p.d p.os).block _ (by simp)).trans (hp2_1 w2 _ _)
  have H5 := hide h5; have H6 := hide h6; clear h5 h6
  refine wp_region_quiet_below (by kernel_rfl) (by kernel_rfl) ?_
  refine wpQuiet_load_row rfl 27 _ rfl w2.heap.size rfl 27 #[.int .u64 (k % 2251799813685248), .int .u64 (k / 2251799813685248), .int .u64 0, .int .u64 0, .int .u64 0] (0, 0) _ H5.out Try.underlying27 rfl (by kernel_rfl) ?_
  simp only [Act.put, List.setIfInBounds_toArray, List.set_cons_succ, List.set_cons_zero]
  go_big_quiet_step (exact Calls.regrown_of (C3.out _))
  refine wpQuiet_load_row rfl 32 _ rfl (w2.heap.size + 1) rfl 32 #[.int .u64 (dg (k) 0), .int .u64 (dg (k) 1), .int .u64 (dg (k) 2), .int .u64 (dg (k) 3), .int .u64 (dg (k) 4), .int .u64 (dg (k) 5), .int .u64 (dg (k) 6), .int .u64 (dg (k) 7), .int .u64 (dg (k) 8), .int .u64 (dg (k) 9), .int .u64 (dg (k) 10), .int .u64 (dg (k) 11), .int .u64 (dg (k) 12), .int .u64 (dg (k) 13), .int .u64 (dg (k) 14), .int .u64 (dg (k) 15)] (0, 0) _ H6.out Try.underlying32 rfl (by kernel_rfl) ?_
  simp only [Act.put, List.setIfInBounds_toArray, List.set_cons_succ, List.set_cons_zero]
  go_big_quiet_step (exact Calls.regrown_of (C4.out _))
  go_big_quiet_step (fail)
  go_big_quiet_step (fail)
  refine wpQuiet_load_want rfl 27 _ rfl w2.heap.size rfl 27 #[.int .u64 (k % 2251799813685248), .int .u64 (k / 2251799813685248), .int .u64 0, .int .u64 0, .int .u64 0] (0, 0) _ H5.out Try.underlying27 rfl (by kernel_rfl) ?_
  simp only [Act.put, List.setIfInBounds_toArray, List.set_cons_succ, List.set_cons_zero]
  go_big_quiet_step (fail)
  go_big_quiet_step (exact Calls.regrown_of (C5.out _))
  go_big_quiet_step (exact Calls.regrown_of (C6.out _))
  refine wpQuiet_load_want rfl 32 _ rfl (w2.heap.size + 1) rfl 32 #[.int .u64 (dg (k) 0), .int .u64 (dg (k) 1), .int .u64 (dg (k) 2), .int .u64 (dg (k) 3), .int .u64 (dg (k) 4), .int .u64 (dg (k) 5), .int .u64 (dg (k) 6), .int .u64 (dg (k) 7), .int .u64 (dg (k) 8), .int .u64 (dg (k) 9), .int .u64 (dg (k) 10), .int .u64 (dg (k) 11), .int .u64 (dg (k) 12), .int .u64 (dg (k) 13), .int .u64 (dg (k) 14), .int .u64 (dg (k) 15)] (0, 0) _ H6.out Try.underlying32 rfl (by kernel_rfl) ?_
  simp only [Act.put, List.setIfInBounds_toArray, List.set_cons_succ, List.set_cons_zero]
  go_big_quiet_step (fail)
  go_big_quiet_step (exact Calls.regrown_of (C7.out _))
  go_big_quiet_step (exact Calls.regrown_of (C8.out _))
  repeat (go_big_quiet_step (fail))
  refine wpQuiet_nil ?_
  rintro _ ⟨p, rfl⟩
  have hb := below_regrown ((w2.alloc (.cells #[.int .u64 (k % 2251799813685248), .int .u64 (k / 2251799813685248), .int .u64 0, .int .u64 0, .int .u64 0] 27)).alloc (.cells #[.int .u64 (dg (k) 0), .int .u64 (dg (k) 1), .int .u64 (dg (k) 2), .int .u64 (dg (k) 3), .int .u64 (dg (k) 4), .int .u64 (dg (k) 5), .int .u64 (dg (k) 6), .int .u64 (dg (k) 7), .int .u64 (dg (k) 8), .int .u64 (dg (k) 9), .int .u64 (dg (k) 10), .int .u64 (dg (k) 11), .int .u64 (dg (k) 12), .int .u64 (dg (k) 13), .int .u64 (dg (k) 14), .int .u64 (dg (k) 15)] 32)) p.d p.os
  generalize grow (redrawn ((w2.alloc (.cells #[.int .u64 (k % 2251799813685248), .int .u64 (k / 2251799813685248), .int .u64 0, .int .u64 0, .int .u64 0] 27)).alloc (.cells #[.int .u64 (dg (k) 0), .int .u64 (dg (k) 1), .int .u64 (dg (k) 2), .int .u64 (dg (k) 3), .int .u64 (dg (k) 4), .int .u64 (dg (k) 5), .int .u64 (dg (k) 6), .int .u64 (dg (k) 7), .int .u64 (dg (k) 8), .int .u64 (dg (k) 9), .int .u64 (dg (k) 10), .int .u64 (dg (k) 11), .int .u64 (dg (k) 12), .int .u64 (dg (k) 13), .int .u64 (dg (k) 14), .int .u64 (dg (k) 15)] 32)) p.d) p.os = W1 at *
  go_wp2
  go_ret
  exact ⟨rfl, hb2.trans ((((Below.refl _ _).alloc hb2.size _).alloc (by have := hb2.size; simp; omega) _).trans (hb.mono (by have := hb2.size; simp; omega)))⟩

end Go.Proofs.Ytcjdglckbkdheab

