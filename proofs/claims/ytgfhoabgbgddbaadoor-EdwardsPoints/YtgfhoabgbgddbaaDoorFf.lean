import Derived.Test.YtgfhoabgbgddbaaDoorProg
import Derived.WalkKit
import Derived.WalkSpells
import Derived.WalkLawsBesides
import Derived.Lib.QuietBelow
import Derived.BigQuiet
import Derived.Test.YtgfhoabgbgddbaaDoorKa
import Derived.Test.YtgfhoabgbgddbaaDoorMa
import Derived.Test.YtgfhoabgbgddbaaDoorRc
import Derived.Test.YtgfhoabgbgddbaaDoorRf
namespace Go.Proofs.YtgfhoabgbgddbaaDoor
set_option maxRecDepth 100000
open Go.RowKit Go.Sort
attribute [local go_sem] setCell_drewN alloc_drewN


set_option maxHeartbeats 1000000 in
theorem small_any (k : Int) (h0 : 0 ≤ k) (h1 : k < 18446744073709551616) (w : World) :
    Calls Tryd.prog 47 #[.int .u64 k] w fun e w' => e = .returned (.agg #[.int .u64 (k % 2251799813685248), .int .u64 (k / 2251799813685248), .int .u64 0, .int .u64 0, .int .u64 0]) ∧ Below w.heap.size w w' := by
  go_enter Tryd.func47, Tryd.ntmps47
  go_wp2
  rw [and51 k h0 h1]
  exact bodyPost_ret (v := .agg #[.int .u64 (k % 2251799813685248), .int .u64 (k / 2251799813685248), .int .u64 0, .int .u64 0, .int .u64 0]) (results_cell_row Tryd.results47 _ _ w.heap.size _ #[.int .u64 (k % 2251799813685248), .int .u64 (k / 2251799813685248), .int .u64 0, .int .u64 0, .int .u64 0] _ _ rfl (hp1_0 w _) Tryd.underlying27 rfl (by kernel_rfl)) rfl ⟨rfl, (Below.refl _ _).alloc (Nat.le_refl _) _⟩
theorem small_val (k : Int) : v5 (k % 2251799813685248) (k / 2251799813685248) 0 0 0 = k := by unfold v5; omega

set_option maxHeartbeats 2000000 in
theorem refSmall_any (k : Int) (h0 : 0 ≤ k) (h1 : k < 18446744073709551616) (w : World) :
    Calls Tryd.prog 69 #[.int .u64 k] w fun e w' => e = .returned (.agg #[.int .u64 (dg (k) 0), .int .u64 (dg (k) 1), .int .u64 (dg (k) 2), .int .u64 (dg (k) 3), .int .u64 (dg (k) 4), .int .u64 (dg (k) 5), .int .u64 (dg (k) 6), .int .u64 (dg (k) 7), .int .u64 (dg (k) 8), .int .u64 (dg (k) 9), .int .u64 (dg (k) 10), .int .u64 (dg (k) 11), .int .u64 (dg (k) 12), .int .u64 (dg (k) 13), .int .u64 (dg (k) 14), .int .u64 (dg (k) 15)]) ∧ Below w.heap.size w w' := by
  have c := fun W => settle_any (k % 65536) (k / 65536 % 65536) (k / 65536 / 65536 % 65536) (k / 65536 / 65536 / 65536 % 65536) 0 0 0 0 0 0 0 0 0 0 0 0 (by omega) (by omega) (by omega) (by omega) (by omega) (by omega) (by omega) (by omega) (by omega) (by omega) (by omega) (by omega) (by omega) (by omega) (by omega) (by omega) (by omega) (by omega) (by omega) (by omega) (by omega) (by omega) (by omega) (by omega) (by omega) (by omega) (by omega) (by omega) (by omega) (by omega) (by omega) (by omega) W
  have hv : v16 (k % 65536) (k / 65536 % 65536) (k / 65536 / 65536 % 65536) (k / 65536 / 65536 / 65536 % 65536) 0 0 0 0 0 0 0 0 0 0 0 0 % prm = k := by
    have e : v16 (k % 65536) (k / 65536 % 65536) (k / 65536 / 65536 % 65536) (k / 65536 / 65536 / 65536 % 65536) 0 0 0 0 0 0 0 0 0 0 0 0 = k := by simp only [v16, valL]; omega
    rw [e]; exact Int.emod_eq_of_lt h0 (by unfold prm; omega)
  rw [hv] at c
  have C := hide c; clear c hv
  go_enter Tryd.func69, Tryd.ntmps69
  go_wp2
  refine wp_loop_rounds 5 ?_
  rw [rounds_succ]; go_wp2
  rw [rounds_succ]; go_wp2
  rw [rounds_succ]; go_wp2
  rw [rounds_succ]; go_wp2
  rw [rounds_succ]
  go_wp2_with (first | (refine wpList_load_row rfl 33 _ rfl (w.heap.size + 1) rfl 33 _ (0, 0) _ (hp2_1 w _ _) Tryd.underlying33 rfl (by kernel_rfl) ?_) | fail)
  refine (C.out _).mono ?_
  rintro e w1 ⟨rfl, hb⟩
  have rZ : w1.heap[w.heap.size]? = some (.cells #[.int .u64 0, .int .u64 0, .int .u64 0, .int .u64 0, .int .u64 0, .int .u64 0, .int .u64 0, .int .u64 0, .int .u64 0, .int .u64 0, .int .u64 0, .int .u64 0, .int .u64 0, .int .u64 0, .int .u64 0, .int .u64 0] 35 (0, 0)) := (hb.block _ (by simp; omega)).trans (hp2_0 w _ _)
  have hbw : Below w.heap.size w w1 := (((Below.refl _ _).alloc (Nat.le_refl _) _).alloc (by simp) _).trans (hb.mono (by simp; omega))
  clear hb
  go_wp2_with (first | (refine wpList_store_row rfl 35 _ _ rfl w.heap.size #[.int .u64 (dg (k) 0), .int .u64 (dg (k) 1), .int .u64 (dg (k) 2), .int .u64 (dg (k) 3), .int .u64 (dg (k) 4), .int .u64 (dg (k) 5), .int .u64 (dg (k) 6), .int .u64 (dg (k) 7), .int .u64 (dg (k) 8), .int .u64 (dg (k) 9), .int .u64 (dg (k) 10), .int .u64 (dg (k) 11), .int .u64 (dg (k) 12), .int .u64 (dg (k) 13), .int .u64 (dg (k) 14), .int .u64 (dg (k) 15)] rfl rfl 35 _ rZ (by kernel_rfl) rfl (by kernel_rfl) ?_) | fail)
  exact bodyPost_ret (v := .agg #[.int .u64 (dg (k) 0), .int .u64 (dg (k) 1), .int .u64 (dg (k) 2), .int .u64 (dg (k) 3), .int .u64 (dg (k) 4), .int .u64 (dg (k) 5), .int .u64 (dg (k) 6), .int .u64 (dg (k) 7), .int .u64 (dg (k) 8), .int .u64 (dg (k) 9), .int .u64 (dg (k) 10), .int .u64 (dg (k) 11), .int .u64 (dg (k) 12), .int .u64 (dg (k) 13), .int .u64 (dg (k) 14), .int .u64 (dg (k) 15)]) (results_cell_row Tryd.results69 _ _ w.heap.size _ #[.int .u64 (dg (k) 0), .int .u64 (dg (k) 1), .int .u64 (dg (k) 2), .int .u64 (dg (k) 3), .int .u64 (dg (k) 4), .int .u64 (dg (k) 5), .int .u64 (dg (k) 6), .int .u64 (dg (k) 7), .int .u64 (dg (k) 8), .int .u64 (dg (k) 9), .int .u64 (dg (k) 10), .int .u64 (dg (k) 11), .int .u64 (dg (k) 12), .int .u64 (dg (k) 13), .int .u64 (dg (k) 14), .int .u64 (dg (k) 15)] _ _ rfl (setRow_heap _ _ _ _ _ _ rZ) Tryd.underlying35 rfl (by kernel_rfl)) rfl ⟨rfl, below_setRow hbw (by omega) _⟩


end Go.Proofs.YtgfhoabgbgddbaaDoor

