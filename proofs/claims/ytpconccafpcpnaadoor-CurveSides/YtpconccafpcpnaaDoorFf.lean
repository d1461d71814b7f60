import Derived.Test.YtpconccafpcpnaaDoorProg
import Derived.WalkKit
import Derived.WalkSpells
import Derived.WalkLawsBesides
import Derived.Lib.QuietBelow
import Derived.BigQuiet
import Derived.Test.YtpconccafpcpnaaDoorKa
import Derived.Test.YtpconccafpcpnaaDoorMa
import Derived.Test.YtpconccafpcpnaaDoorRc
import Derived.Test.YtpconccafpcpnaaDoorRf
namespace Go.Proofs.YtpconccafpcpnaaDoor
set_option maxRecDepth 100000
open Go.RowKit Go.Sort
attribute [local go_sem] setCell_drewN alloc_drewN


set_option maxHeartbeats 1000000 in
theorem small_any (k : Int) (h0 : 0 ≤ k) (h1 : k < 18446744073709551616) (w : World) :
    Calls Tryd.prog 17 #[.int .u64 k] w fun e w' => e = .returned (.agg #[.int .u64 (k % 2251799813685248), .int .u64 (k / 2251799813685248), .int .u64 0, .int .u64 0, .int .u64 0]) ∧ Below w.heap.size w w' := by
  go_enter Tryd.func17, Tryd.ntmps17
  go_wp2
  rw [and51 k h0 h1]
  exact bodyPost_ret (v := .agg #[.int .u64 (k % 2251799813685248), .int .u64 (k / 2251799813685248), .int .u64 0, .int .u64 0, .int .u64 0]) (results_cell_row Tryd.results17 _ _ w.heap.size _ #[.int .u64 (k % 2251799813685248), .int .u64 (k / 2251799813685248), .int .u64 0, .int .u64 0, .int .u64 0] _ _ rfl (hp1_0 w _) Tryd.underlying26 rfl (by kernel_rfl)) rfl ⟨rfl, (Below.refl _ _).alloc (Nat.le_refl _) _⟩
theorem small_val (k : Int) : v5 (k % 2251799813685248) (k / 2251799813685248) 0 0 0 = k := by unfold v5; omega

set_option maxHeartbeats 2000000 in
theorem refSmall_any (k : Int) (h0 : 0 ≤ k) (h1 : k < 18446744073709551616) (w : World) :
    Calls Tryd.prog 18 #[.int .u64 k] w fun e w' => e = .returned (.agg #[.int .u64 (dg (k) 0), .int .u64 (dg (k) 1), .int .u64 (dg (k) 2), .int .u64 (dg (k) 3), .int .u64 (dg (k) 4), .int .u64 (dg (k) 5), .int .u64 (dg (k) 6), .int .u64 (dg (k) 7), .int .u64 (dg (k) 8), .int .u64 (dg (k) 9), .int .u64 (dg (k) 10), .int .u64 (dg (k) 11), .int .u64 (dg (k) 12), .int .u64 (dg (k) 13), .int .u64 (dg (k) 14), .int .u64 (dg (k) 15)]) ∧ Below w.heap.size w w' := by
  have c := fun W => settle_any (k % 65536) (k / 65536 % 65536) (k / 65536 / 65536 % 65536) (k / 65536 / 65536 / 65536 % 65536) 0 0 0 0 0 0 0 0 0 0 0 0 (by omega) (by omega) (by omega) (by omega) (by omega) (by omega) (by omega) (by omega) (by omega) (by omega) (by omega) (by omega) (by omega) (by omega) (by omega) (by omega) (by omega) (by omega) (by omega) (by omega) (by omega) (by omega) (by omega) (by omega) (by omega) (by omega) (by omega) (by omega) (by omega) (by omega) (by omega) (by omega) W
  have hv : v16 (k % 65536) (k / 65536 % 65536) (k / 65536 / 65536 % 65536) (k / 65536 / 65536 / 65536 % 65536) 0 0 0 0 0 0 0 0 0 0 0 0 % prm = k := by
    have e : v16 (k % 65536) (k / 65536 % 65536) (k / 65536 / 65536 % 65536) (k / 65536 / 65536 / 65536 % 65536) 0 0 0 0 0 0 0 0 0 0 0 0 = k := by simp only [v16, valL]; omega
    rw [e]; exact Int.emod_eq_of_lt h0 (by unfold prm; omega)
  rw [hv] at c
  have C := hide c; clear c hv
  go_enter Tryd.func18, Tryd.ntmps18
  go_wp2
  refine wp_loop_rounds 5 ?_
  rw [rounds_succ]; go_wp2
  rw [rounds_succ]; go_wp2
  rw [rounds_succ]; go_wp2
  rw [rounds_succ]; go_wp2
  rw [rounds_succ]
  go_wp2_with (first | (refine wpList_load_row rfl 28 _ rfl (w.heap.size + 1) rfl 28 _ (0, 0) _ (hp2_1 w _ _) Tryd.underlying28 rfl (by kernel_rfl) ?_) | fail)
  refine (C.out _).mono ?_
  rintro e w1 ⟨rfl, hb⟩
  have rZ : w1.heap[w.heap.size]? = some (.cells #[.int .u64 0, .int .u64 0, .int .u64 0, .int .u64 0, .int .u64 0, .int .u64 0, .int .u64 0, .int .u64 0, .int .u64 0, .int .u64 0, .int .u64 0, .int .u64 0, .int .u64 0, .int .u64 0, .int .u64 0, .int .u64 0] 30 (0, 0)) := (hb.block _ (by simp; omega)).trans (hp2_0 w _ _)
  have hbw : Below w.heap.size w w1 := (((Below.refl _ _).alloc (Nat.le_refl _) _).alloc (by simp) _).trans (hb.mono (by simp; omega))
  clear hb
  go_wp2_with (first | (refine wpList_store_row rfl 30 _ _ rfl w.heap.size #[.int .u64 (dg (k) 0), .int .u64 (dg (k) 1), .int .u64 (dg (k) 2), .int .u64 (dg (k) 3), .int .u64 (dg (k) 4), .int .u64 (dg (k) 5), .int .u64 (dg (k) 6), .int .u64 (dg (k) 7), .int .u64 (dg (k) 8), .int .u64 (dg (k) 9), .int .u64 (dg (k) 10), .int .u64 (dg (k) 11), .int .u64 (dg (k) 12), .int .u64 (dg (k) 13), .int .u64 (dg (k) 14), .int .u64 (dg (k) 15)] rfl rfl 30 _ rZ (by kernel_rfl) rfl (by kernel_rfl) ?_) | fail)
  exact bodyPost_ret (v := .agg #[.int .u64 (dg (k) 0), .int .u64 (dg (k) 1), .int .u64 (dg (k) 2), .int .u64 (dg (k) 3), .int .u64 (dg (k) 4), .int .u64 (dg (k) 5), .int .u64 (dg (k) 6), .int .u64 (dg (k) 7), .int .u64 (dg (k) 8), .int .u64 (dg (k) 9), .int .u64 (dg (k) 10), .int .u64 (dg (k) 11), .int .u64 (dg (k) 12), .int .u64 (dg (k) 13), .int .u64 (dg (k) 14), .int .u64 (dg (k) 15)]) (results_cell_row Tryd.results18 _ _ w.heap.size _ #[.int .u64 (dg (k) 0), .int .u64 (dg (k) 1), .int .u64 (dg (k) 2), .int .u64 (dg (k) 3), .int .u64 (dg (k) 4), .int .u64 (dg (k) 5), .int .u64 (dg (k) 6), .int .u64 (dg (k) 7), .int .u64 (dg (k) 8), .int .u64 (dg (k) 9), .int .u64 (dg (k) 10), .int .u64 (dg (k) 11), .int .u64 (dg (k) 12), .int .u64 (dg (k) 13), .int .u64 (dg (k) 14), .int .u64 (dg (k) 15)] _ _ rfl (setRow_heap _ _ _ _ _ _ rZ) Tryd.underlying30 rfl (by kernel_rfl)) rfl ⟨rfl, below_setRow hbw (by omega) _⟩


set_option maxHeartbeats 2000000 in
theorem refTimes_any (m k : Int) (hm0 : 0 ≤ m) (hm : m < prm) (h0 : 0 ≤ k) (h1 : k < 4294967296) (w : World) :
    Calls Tryd.prog 46 #[.agg #[.int .u64 (dg (m) 0), .int .u64 (dg (m) 1), .int .u64 (dg (m) 2), .int .u64 (dg (m) 3), .int .u64 (dg (m) 4), .int .u64 (dg (m) 5), .int .u64 (dg (m) 6), .int .u64 (dg (m) 7), .int .u64 (dg (m) 8), .int .u64 (dg (m) 9), .int .u64 (dg (m) 10), .int .u64 (dg (m) 11), .int .u64 (dg (m) 12), .int .u64 (dg (m) 13), .int .u64 (dg (m) 14), .int .u64 (dg (m) 15)], .int .u32 k] w fun e w' => e = .returned (.agg #[.int .u64 (dg (m * k % prm) 0), .int .u64 (dg (m * k % prm) 1), .int .u64 (dg (m * k % prm) 2), .int .u64 (dg (m * k % prm) 3), .int .u64 (dg (m * k % prm) 4), .int .u64 (dg (m * k % prm) 5), .int .u64 (dg (m * k % prm) 6), .int .u64 (dg (m * k % prm) 7), .int .u64 (dg (m * k % prm) 8), .int .u64 (dg (m * k % prm) 9), .int .u64 (dg (m * k % prm) 10), .int .u64 (dg (m * k % prm) 11), .int .u64 (dg (m * k % prm) 12), .int .u64 (dg (m * k % prm) 13), .int .u64 (dg (m * k % prm) 14), .int .u64 (dg (m * k % prm) 15)]) ∧ Below w.heap.size w w' := by
  have c1 := fun W => refSmall_any k h0 (by omega) W
  have c2 := fun W => refMul_dg m k hm0 hm h0 (by unfold prm; omega) W
  have C1 := hide c1; have C2 := hide c2; clear c1 c2
  generalize m * k % prm = q at *
  have hB : ∀ W, (∃ p : Regrown, W = grow (redrawn ((w.alloc (.cells #[.int .u64 (dg (m) 0), .int .u64 (dg (m) 1), .int .u64 (dg (m) 2), .int .u64 (dg (m) 3), .int .u64 (dg (m) 4), .int .u64 (dg (m) 5), .int .u64 (dg (m) 6), .int .u64 (dg (m) 7), .int .u64 (dg (m) 8), .int .u64 (dg (m) 9), .int .u64 (dg (m) 10), .int .u64 (dg (m) 11), .int .u64 (dg (m) 12), .int .u64 (dg (m) 13), .int .u64 (dg (m) 14), .int .u64 (dg (m) 15)] 30)).alloc (.cells #[.int .u64 0, .int .u64 0, .int .u64 0, .int .u64 0, .int .u64 0, .int .u64 0, .int .u64 0, .int .u64 0, .int .u64 0, .int .u64 0, .int .u64 0, .int .u64 0, .int .u64 0, .int .u64 0, .int .u64 0, .int .u64 0] 30)) p.d) p.os) → W.heap[w.heap.size]? = some (.cells #[.int .u64 (dg (m) 0), .int .u64 (dg (m) 1), .int .u64 (dg (m) 2), .int .u64 (dg (m) 3), .int .u64 (dg (m) 4), .int .u64 (dg (m) 5), .int .u64 (dg (m) 6), .int .u64 (dg (m) 7), .int .u64 (dg (m) 8), .int .u64 (dg (m) 9), .int .u64 (dg (m) 10), .int .u64 (dg (m) 11), .int .u64 (dg (m) 12), .int .u64 (dg (m) 13), .int .u64 (dg (m) 14), .int .u64 (dg (m) 15)] 30 (0, 0)) := by
    rintro _ ⟨p, rfl⟩; exact ((below_regrown _ p.d p.os).block _ (by simp; omega)).trans (hp2_0 w _ _)
  have HB := hide hB; clear hB
  go_enter Tryd.func46, Tryd.ntmps46
  go_wp2
  refine wp_region_tail (C := fun w' => ∃ p : Regrown, w' = grow (redrawn ((w.alloc (.cells #[.int .u64 (dg (m) 0), .int .u64 (dg (m) 1), .int .u64 (dg (m) 2), .int .u64 (dg (m) 3), .int .u64 (dg (m) 4), .int .u64 (dg (m) 5), .int .u64 (dg (m) 6), .int .u64 (dg (m) 7), .int .u64 (dg (m) 8), .int .u64 (dg (m) 9), .int .u64 (dg (m) 10), .int .u64 (dg (m) 11), .int .u64 (dg (m) 12), .int .u64 (dg (m) 13), .int .u64 (dg (m) 14), .int .u64 (dg (m) 15)] 30)).alloc (.cells #[.int .u64 0, .int .u64 0, .int .u64 0, .int .u64 0, .int .u64 0, .int .u64 0, .int .u64 0, .int .u64 0, .int .u64 0, .int .u64 0, .int .u64 0, .int .u64 0, .int .u64 0, .int .u64 0, .int .u64 0, .int .u64 0] 30)) p.d) p.os) 5 _ rfl rfl rfl (by kernel_rfl) (by kernel_rfl) (by kernel_rfl) (by kernel_rfl) ⟨⟨((w.alloc (.cells #[.int .u64 (dg (m) 0), .int .u64 (dg (m) 1), .int .u64 (dg (m) 2), .int .u64 (dg (m) 3), .int .u64 (dg (m) 4), .int .u64 (dg (m) 5), .int .u64 (dg (m) 6), .int .u64 (dg (m) 7), .int .u64 (dg (m) 8), .int .u64 (dg (m) 9), .int .u64 (dg (m) 10), .int .u64 (dg (m) 11), .int .u64 (dg (m) 12), .int .u64 (dg (m) 13), .int .u64 (dg (m) 14), .int .u64 (dg (m) 15)] 30)).alloc (.cells #[.int .u64 0, .int .u64 0, .int .u64 0, .int .u64 0, .int .u64 0, .int .u64 0, .int .u64 0, .int .u64 0, .int .u64 0, .int .u64 0, .int .u64 0, .int .u64 0, .int .u64 0, .int .u64 0, .int .u64 0, .int .u64 0] 30)).drawn + 1, #[]⟩, by rw [grow_empty]; rfl⟩ ?_
  dsimp only [List.set, idle]
  refine wpQuiet_load_row rfl 30 _ rfl w.heap.size rfl 30 #[.int .u64 (dg (m) 0), .int .u64 (dg (m) 1), .int .u64 (dg (m) 2), .int .u64 (dg (m) 3), .int .u64 (dg (m) 4), .int .u64 (dg (m) 5), .int .u64 (dg (m) 6), .int .u64 (dg (m) 7), .int .u64 (dg (m) 8), .int .u64 (dg (m) 9), .int .u64 (dg (m) 10), .int .u64 (dg (m) 11), .int .u64 (dg (m) 12), .int .u64 (dg (m) 13), .int .u64 (dg (m) 14), .int .u64 (dg (m) 15)] (0, 0) _ HB.out Tryd.underlying30 rfl (by kernel_rfl) ?_
  simp only [Act.put, List.setIfInBounds_toArray, List.set_cons_succ, List.set_cons_zero]
  go_big_quiet_step (fail)
  go_big_quiet_step (fail)
  go_big_quiet_step (exact Calls.regrown_of (C1.out _))
  go_big_quiet_step (exact Calls.regrown_of (C2.out _))
  refine wpQuiet_idle rfl rfl rfl ?_
  rintro _ ⟨p, rfl⟩
  have hB := below_regrown ((w.alloc (.cells #[.int .u64 (dg (m) 0), .int .u64 (dg (m) 1), .int .u64 (dg (m) 2), .int .u64 (dg (m) 3), .int .u64 (dg (m) 4), .int .u64 (dg (m) 5), .int .u64 (dg (m) 6), .int .u64 (dg (m) 7), .int .u64 (dg (m) 8), .int .u64 (dg (m) 9), .int .u64 (dg (m) 10), .int .u64 (dg (m) 11), .int .u64 (dg (m) 12), .int .u64 (dg (m) 13), .int .u64 (dg (m) 14), .int .u64 (dg (m) 15)] 30)).alloc (.cells #[.int .u64 0, .int .u64 0, .int .u64 0, .int .u64 0, .int .u64 0, .int .u64 0, .int .u64 0, .int .u64 0, .int .u64 0, .int .u64 0, .int .u64 0, .int .u64 0, .int .u64 0, .int .u64 0, .int .u64 0, .int .u64 0] 30)) p.d p.os
  clear HB
  generalize grow (redrawn ((w.alloc (.cells #[.int .u64 (dg (m) 0), .int .u64 (dg (m) 1), .int .u64 (dg (m) 2), .int .u64 (dg (m) 3), .int .u64 (dg (m) 4), .int .u64 (dg (m) 5), .int .u64 (dg (m) 6), .int .u64 (dg (m) 7), .int .u64 (dg (m) 8), .int .u64 (dg (m) 9), .int .u64 (dg (m) 10), .int .u64 (dg (m) 11), .int .u64 (dg (m) 12), .int .u64 (dg (m) 13), .int .u64 (dg (m) 14), .int .u64 (dg (m) 15)] 30)).alloc (.cells #[.int .u64 0, .int .u64 0, .int .u64 0, .int .u64 0, .int .u64 0, .int .u64 0, .int .u64 0, .int .u64 0, .int .u64 0, .int .u64 0, .int .u64 0, .int .u64 0, .int .u64 0, .int .u64 0, .int .u64 0, .int .u64 0] 30)) p.d) p.os = W1 at *
  have rZ : W1.heap[w.heap.size + 1]? = some (.cells #[.int .u64 0, .int .u64 0, .int .u64 0, .int .u64 0, .int .u64 0, .int .u64 0, .int .u64 0, .int .u64 0, .int .u64 0, .int .u64 0, .int .u64 0, .int .u64 0, .int .u64 0, .int .u64 0, .int .u64 0, .int .u64 0] 30 (0, 0)) := (hB.block _ (by simp)).trans (hp2_1 w _ _)
  have hbw : Below w.heap.size w W1 := (((Below.refl _ _).alloc (Nat.le_refl _) _).alloc (by simp) _).trans (hB.mono (by simp; omega))
  clear hB
  go_wp2_with (first | (refine wpList_store_row rfl 30 _ _ rfl (w.heap.size + 1) #[.int .u64 (dg (q) 0), .int .u64 (dg (q) 1), .int .u64 (dg (q) 2), .int .u64 (dg (q) 3), .int .u64 (dg (q) 4), .int .u64 (dg (q) 5), .int .u64 (dg (q) 6), .int .u64 (dg (q) 7), .int .u64 (dg (q) 8), .int .u64 (dg (q) 9), .int .u64 (dg (q) 10), .int .u64 (dg (q) 11), .int .u64 (dg (q) 12), .int .u64 (dg (q) 13), .int .u64 (dg (q) 14), .int .u64 (dg (q) 15)] rfl rfl 30 _ rZ (by kernel_rfl) rfl (by kernel_rfl) ?_) | fail)
  exact bodyPost_ret (v := .agg #[.int .u64 (dg (q) 0), .int .u64 (dg (q) 1), .int .u64 (dg (q) 2), .int .u64 (dg (q) 3), .int .u64 (dg (q) 4), .int .u64 (dg (q) 5), .int .u64 (dg (q) 6), .int .u64 (dg (q) 7), .int .u64 (dg (q) 8), .int .u64 (dg (q) 9), .int .u64 (dg (q) 10), .int .u64 (dg (q) 11), .int .u64 (dg (q) 12), .int .u64 (dg (q) 13), .int .u64 (dg (q) 14), .int .u64 (dg (q) 15)]) (results_cell_row Tryd.results46 _ _ (w.heap.size + 1) _ #[.int .u64 (dg (q) 0), .int .u64 (dg (q) 1), .int .u64 (dg (q) 2), .int .u64 (dg (q) 3), .int .u64 (dg (q) 4), .int .u64 (dg (q) 5), .int .u64 (dg (q) 6), .int .u64 (dg (q) 7), .int .u64 (dg (q) 8), .int .u64 (dg (q) 9), .int .u64 (dg (q) 10), .int .u64 (dg (q) 11), .int .u64 (dg (q) 12), .int .u64 (dg (q) 13), .int .u64 (dg (q) 14), .int .u64 (dg (q) 15)] _ _ rfl (setRow_heap _ _ _ _ _ _ rZ) Tryd.underlying30 rfl (by kernel_rfl)) rfl ⟨rfl, below_setRow hbw (by omega) _⟩

end Go.Proofs.YtpconccafpcpnaaDoor

