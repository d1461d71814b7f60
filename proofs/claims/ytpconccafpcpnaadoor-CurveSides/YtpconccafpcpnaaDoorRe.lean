import Derived.Test.YtpconccafpcpnaaDoorProg
import Derived.WalkKit
import Derived.WalkSpells
import Derived.WalkLawsBesides
import Derived.Lib.QuietBelow
import Derived.BigQuiet
import Derived.Test.YtpconccafpcpnaaDoorKa
import Derived.Test.YtpconccafpcpnaaDoorMa
namespace Go.Proofs.YtpconccafpcpnaaDoor
set_option maxRecDepth 100000
open Go.RowKit Go.Sort
attribute [local go_sem] setCell_drewN alloc_drewN


set_option maxHeartbeats 4000000 in
theorem refBytes_any (x0 x1 x2 x3 x4 x5 x6 x7 x8 x9 x10 x11 x12 x13 x14 x15 : Int) (lo0 : 0 ≤ x0) (hi0 : x0 < 65536) (lo1 : 0 ≤ x1) (hi1 : x1 < 65536) (lo2 : 0 ≤ x2) (hi2 : x2 < 65536) (lo3 : 0 ≤ x3) (hi3 : x3 < 65536) (lo4 : 0 ≤ x4) (hi4 : x4 < 65536) (lo5 : 0 ≤ x5) (hi5 : x5 < 65536) (lo6 : 0 ≤ x6) (hi6 : x6 < 65536) (lo7 : 0 ≤ x7) (hi7 : x7 < 65536) (lo8 : 0 ≤ x8) (hi8 : x8 < 65536) (lo9 : 0 ≤ x9) (hi9 : x9 < 65536) (lo10 : 0 ≤ x10) (hi10 : x10 < 65536) (lo11 : 0 ≤ x11) (hi11 : x11 < 65536) (lo12 : 0 ≤ x12) (hi12 : x12 < 65536) (lo13 : 0 ≤ x13) (hi13 : x13 < 65536) (lo14 : 0 ≤ x14) (hi14 : x14 < 65536) (lo15 : 0 ≤ x15) (hi15 : x15 < 65536) (w : World) :
    Calls Tryd.prog 16 #[.agg #[.int .u64 x0, .int .u64 x1, .int .u64 x2, .int .u64 x3, .int .u64 x4, .int .u64 x5, .int .u64 x6, .int .u64 x7, .int .u64 x8, .int .u64 x9, .int .u64 x10, .int .u64 x11, .int .u64 x12, .int .u64 x13, .int .u64 x14, .int .u64 x15]] w fun e w' => e = .returned (.agg #[.int .u8 (x0 % 256), .int .u8 (x0 / 256), .int .u8 (x1 % 256), .int .u8 (x1 / 256), .int .u8 (x2 % 256), .int .u8 (x2 / 256), .int .u8 (x3 % 256), .int .u8 (x3 / 256), .int .u8 (x4 % 256), .int .u8 (x4 / 256), .int .u8 (x5 % 256), .int .u8 (x5 / 256), .int .u8 (x6 % 256), .int .u8 (x6 / 256), .int .u8 (x7 % 256), .int .u8 (x7 / 256), .int .u8 (x8 % 256), .int .u8 (x8 / 256), .int .u8 (x9 % 256), .int .u8 (x9 / 256), .int .u8 (x10 % 256), .int .u8 (x10 / 256), .int .u8 (x11 % 256), .int .u8 (x11 / 256), .int .u8 (x12 % 256), .int .u8 (x12 / 256), .int .u8 (x13 % 256), .int .u8 (x13 / 256), .int .u8 (x14 % 256), .int .u8 (x14 / 256), .int .u8 (x15 % 256), .int .u8 (x15 / 256)]) ∧ Below w.heap.size w w' := by
  go_enter Tryd.func16, Tryd.ntmps16
  go_wp2
  refine wp_loop_rounds 17 ?_
  rw [rounds_succ]
  go_wp2
  rw [rounds_succ]
  go_wp2
  rw [rounds_succ]
  go_wp2
  rw [rounds_succ]
  go_wp2
  rw [rounds_succ]
  go_wp2
  rw [rounds_succ]
  go_wp2
  rw [rounds_succ]
  go_wp2
  rw [rounds_succ]
  go_wp2
  rw [rounds_succ]
  go_wp2
  rw [rounds_succ]
  go_wp2
  rw [rounds_succ]
  go_wp2
  rw [rounds_succ]
  go_wp2
  rw [rounds_succ]
  go_wp2
  rw [rounds_succ]
  go_wp2
  rw [rounds_succ]
  go_wp2
  rw [rounds_succ]
  go_wp2
  rw [rounds_succ]
  go_wp2_with (first | (refine wpList_load_row rfl 34 _ rfl (w.heap.size + 1 + 1) rfl 34 #[.int .u8 (x0 % 256), .int .u8 (x0 / 256), .int .u8 (x1 % 256), .int .u8 (x1 / 256), .int .u8 (x2 % 256), .int .u8 (x2 / 256), .int .u8 (x3 % 256), .int .u8 (x3 / 256), .int .u8 (x4 % 256), .int .u8 (x4 / 256), .int .u8 (x5 % 256), .int .u8 (x5 / 256), .int .u8 (x6 % 256), .int .u8 (x6 / 256), .int .u8 (x7 % 256), .int .u8 (x7 / 256), .int .u8 (x8 % 256), .int .u8 (x8 / 256), .int .u8 (x9 % 256), .int .u8 (x9 / 256), .int .u8 (x10 % 256), .int .u8 (x10 / 256), .int .u8 (x11 % 256), .int .u8 (x11 / 256), .int .u8 (x12 % 256), .int .u8 (x12 / 256), .int .u8 (x13 % 256), .int .u8 (x13 / 256), .int .u8 (x14 % 256), .int .u8 (x14 / 256), .int .u8 (x15 % 256), .int .u8 (x15 / 256)] (0, 0) _ (hp3_2 w _ _ _) Tryd.underlying34 rfl (by kernel_rfl) ?_) | (refine wpList_store_row rfl 34 _ _ rfl (w.heap.size + 1) #[.int .u8 (x0 % 256), .int .u8 (x0 / 256), .int .u8 (x1 % 256), .int .u8 (x1 / 256), .int .u8 (x2 % 256), .int .u8 (x2 / 256), .int .u8 (x3 % 256), .int .u8 (x3 / 256), .int .u8 (x4 % 256), .int .u8 (x4 / 256), .int .u8 (x5 % 256), .int .u8 (x5 / 256), .int .u8 (x6 % 256), .int .u8 (x6 / 256), .int .u8 (x7 % 256), .int .u8 (x7 / 256), .int .u8 (x8 % 256), .int .u8 (x8 / 256), .int .u8 (x9 % 256), .int .u8 (x9 / 256), .int .u8 (x10 % 256), .int .u8 (x10 / 256), .int .u8 (x11 % 256), .int .u8 (x11 / 256), .int .u8 (x12 % 256), .int .u8 (x12 / 256), .int .u8 (x13 % 256), .int .u8 (x13 / 256), .int .u8 (x14 % 256), .int .u8 (x14 / 256), .int .u8 (x15 % 256), .int .u8 (x15 / 256)] rfl rfl 34 _ (hp3_1 w _ _ _) (by kernel_rfl) rfl (by kernel_rfl) ?_))
  exact bodyPost_ret (v := .agg #[.int .u8 (x0 % 256), .int .u8 (x0 / 256), .int .u8 (x1 % 256), .int .u8 (x1 / 256), .int .u8 (x2 % 256), .int .u8 (x2 / 256), .int .u8 (x3 % 256), .int .u8 (x3 / 256), .int .u8 (x4 % 256), .int .u8 (x4 / 256), .int .u8 (x5 % 256), .int .u8 (x5 / 256), .int .u8 (x6 % 256), .int .u8 (x6 / 256), .int .u8 (x7 % 256), .int .u8 (x7 / 256), .int .u8 (x8 % 256), .int .u8 (x8 / 256), .int .u8 (x9 % 256), .int .u8 (x9 / 256), .int .u8 (x10 % 256), .int .u8 (x10 / 256), .int .u8 (x11 % 256), .int .u8 (x11 / 256), .int .u8 (x12 % 256), .int .u8 (x12 / 256), .int .u8 (x13 % 256), .int .u8 (x13 / 256), .int .u8 (x14 % 256), .int .u8 (x14 / 256), .int .u8 (x15 % 256), .int .u8 (x15 / 256)]) (results_cell_row Tryd.results16 _ _ (w.heap.size + 1) _ #[.int .u8 (x0 % 256), .int .u8 (x0 / 256), .int .u8 (x1 % 256), .int .u8 (x1 / 256), .int .u8 (x2 % 256), .int .u8 (x2 / 256), .int .u8 (x3 % 256), .int .u8 (x3 / 256), .int .u8 (x4 % 256), .int .u8 (x4 / 256), .int .u8 (x5 % 256), .int .u8 (x5 / 256), .int .u8 (x6 % 256), .int .u8 (x6 / 256), .int .u8 (x7 % 256), .int .u8 (x7 / 256), .int .u8 (x8 % 256), .int .u8 (x8 / 256), .int .u8 (x9 % 256), .int .u8 (x9 / 256), .int .u8 (x10 % 256), .int .u8 (x10 / 256), .int .u8 (x11 % 256), .int .u8 (x11 / 256), .int .u8 (x12 % 256), .int .u8 (x12 / 256), .int .u8 (x13 % 256), .int .u8 (x13 / 256), .int .u8 (x14 % 256), .int .u8 (x14 / 256), .int .u8 (x15 % 256), .int .u8 (x15 / 256)] _ _ rfl (setRow_heap _ _ _ _ _ _ (hp3_1 w _ _ _)) Tryd.underlying34 rfl (by kernel_rfl)) rfl ⟨rfl, below_setRow ((((Below.refl _ _).alloc (Nat.le_refl _) _).alloc (by simp) _).alloc (by simp; omega) _) (by omega) _⟩

theorem refBytes_dg (m : Int) (w : World) :
    Calls Tryd.prog 16 #[.agg #[.int .u64 (dg m 0), .int .u64 (dg m 1), .int .u64 (dg m 2), .int .u64 (dg m 3), .int .u64 (dg m 4), .int .u64 (dg m 5), .int .u64 (dg m 6), .int .u64 (dg m 7), .int .u64 (dg m 8), .int .u64 (dg m 9), .int .u64 (dg m 10), .int .u64 (dg m 11), .int .u64 (dg m 12), .int .u64 (dg m 13), .int .u64 (dg m 14), .int .u64 (dg m 15)]] w fun e w' => e = .returned (.agg #[.int .u8 (byt m 0), .int .u8 (byt m 1), .int .u8 (byt m 2), .int .u8 (byt m 3), .int .u8 (byt m 4), .int .u8 (byt m 5), .int .u8 (byt m 6), .int .u8 (byt m 7), .int .u8 (byt m 8), .int .u8 (byt m 9), .int .u8 (byt m 10), .int .u8 (byt m 11), .int .u8 (byt m 12), .int .u8 (byt m 13), .int .u8 (byt m 14), .int .u8 (byt m 15), .int .u8 (byt m 16), .int .u8 (byt m 17), .int .u8 (byt m 18), .int .u8 (byt m 19), .int .u8 (byt m 20), .int .u8 (byt m 21), .int .u8 (byt m 22), .int .u8 (byt m 23), .int .u8 (byt m 24), .int .u8 (byt m 25), .int .u8 (byt m 26), .int .u8 (byt m 27), .int .u8 (byt m 28), .int .u8 (byt m 29), .int .u8 (byt m 30), .int .u8 (byt m 31)]) ∧ Below w.heap.size w w' := by
  have h := refBytes_any (dg m 0) (dg m 1) (dg m 2) (dg m 3) (dg m 4) (dg m 5) (dg m 6) (dg m 7) (dg m 8) (dg m 9) (dg m 10) (dg m 11) (dg m 12) (dg m 13) (dg m 14) (dg m 15) (dg_bd m 0).1 (dg_bd m 0).2 (dg_bd m 1).1 (dg_bd m 1).2 (dg_bd m 2).1 (dg_bd m 2).2 (dg_bd m 3).1 (dg_bd m 3).2 (dg_bd m 4).1 (dg_bd m 4).2 (dg_bd m 5).1 (dg_bd m 5).2 (dg_bd m 6).1 (dg_bd m 6).2 (dg_bd m 7).1 (dg_bd m 7).2 (dg_bd m 8).1 (dg_bd m 8).2 (dg_bd m 9).1 (dg_bd m 9).2 (dg_bd m 10).1 (dg_bd m 10).2 (dg_bd m 11).1 (dg_bd m 11).2 (dg_bd m 12).1 (dg_bd m 12).2 (dg_bd m 13).1 (dg_bd m 13).2 (dg_bd m 14).1 (dg_bd m 14).2 (dg_bd m 15).1 (dg_bd m 15).2 w
  simp only [dg_low, dg_high] at h
  exact h

end Go.Proofs.YtpconccafpcpnaaDoor

