import Derived.Test.YtbbdfbljhjijbaaDoorProg
import Derived.WalkKit
import Derived.WalkSpells
import Derived.WalkLawsBesides
import Derived.Lib.QuietBelow
import Derived.BigQuiet
import Derived.Test.YtbbdfbljhjijbaaDoorKa
import Derived.Test.YtbbdfbljhjijbaaDoorHf
namespace Go.Proofs.YtbbdfbljhjijbaaDoor
open Go Go.RowKit Go.Sort
attribute [local go_sem] setCell_drewN alloc_drewN

theorem infoU32 : ∃ i, Tryd.prog.info? 22 = some i := ⟨_, rfl⟩
theorem cellsU32 : Tryd.prog.cellsOf 22 = 1 := by kernel_rfl
theorem eq23 (l m : List Int) (hl : l.length = 8) (hm : m.length = 8) (w : World) : (Op.equalIn 10000 23 (.agg (irow .u32 l)) (.agg (irow .u32 m))).run Tryd.prog w = .ok (decide (l = m)) w := by
  obtain ⟨i0, hi⟩ := infoU32
  exact run_equal_ints w Tryd.underlying23 Tryd.underlying22 hi cellsU32 l m hl hm
set_option maxRecDepth 100000 in
set_option maxHeartbeats 4000000 in
theorem blocks_any (h b : List Int) (hl : h.length = 8) (hb : b.length = 64) (hz : ∀ z ∈ b, 0 ≤ z ∧ z < 256) (w : World) (hK : Kon w) : Calls Tryd.prog 3 #[.agg (irow .u32 h), .agg (irow .u8 b)] w fun e w' => e = .returned (.bool true) ∧ Below w.heap.size w w' := by
  have cA := a_block h b hl hb hz
  have cR := r_block h b hl hb hz
  have hq := blk_len h b
  have heq : ∀ W, (Op.equalIn 10000 23 (.agg (irow .u32 (blk h b))) (.agg (irow .u32 (blk h b)))).run Tryd.prog W = .ok true W := fun W => by rw [eq23 _ _ hq hq]; simp
  have ib := info24 b hb
  have ih := info23 h hl
  clear hz
  have r0 := hp2_0 w (.cells (irow .u32 h) 23) (.cells (irow .u8 b) 24)
  have r1 := hp2_1 w (.cells (irow .u32 h) 23) (.cells (irow .u8 b) 24)
  have hw : Below w.heap.size w ((w.alloc (.cells (irow .u32 h) 23)).alloc (.cells (irow .u8 b) 24)) := (((Below.refl _ _).alloc (Nat.le_refl _) _).alloc (by simp) _)

  have f4 := hK.below hw
  clear hK
  go_enter Tryd.func3, Tryd.ntmps3
  go_wp2_with (first | (refine wpList_box rfl 23 _ rfl _ rfl (b23 _) ?_) | (refine wpList_box rfl 24 _ rfl _ rfl (b24 _) ?_) | fail)
  try simp only [size_alloc1, Act.put, List.setIfInBounds_toArray, List.set_cons_succ, List.set_cons_zero]
  generalize ((w.alloc (.cells (irow .u32 h) 23)).alloc (.cells (irow .u8 b) 24)) = w0 at *
  generalize blk h b = R at *
  have Hr0 := keepr r0
  have Hr1 := keepr r1
  refine wp_region_quiet_below (by kernel_rfl) (by kernel_rfl) ?_
  refine wpQuiet_load_row rfl 23 _ rfl (w.heap.size) rfl 23 (irow .u32 h) (0, 0) _ Hr0.out Tryd.underlying23 rfl ih ?_
  simp only [Act.put, List.setIfInBounds_toArray, List.set_cons_succ, List.set_cons_zero]
  refine wpQuiet_load_row rfl 24 _ rfl (w.heap.size + 1) rfl 24 (irow .u8 b) (0, 0) _ Hr1.out Tryd.underlying24 rfl ib ?_
  simp only [Act.put, List.setIfInBounds_toArray, List.set_cons_succ, List.set_cons_zero]
  go_big_quiet_step (exact cA.re f4)
  refine wpQuiet_load_row rfl 23 _ rfl (w.heap.size) rfl 23 (irow .u32 h) (0, 0) _ Hr0.out Tryd.underlying23 rfl ih ?_
  simp only [Act.put, List.setIfInBounds_toArray, List.set_cons_succ, List.set_cons_zero]
  refine wpQuiet_load_row rfl 24 _ rfl (w.heap.size + 1) rfl 24 (irow .u8 b) (0, 0) _ Hr1.out Tryd.underlying24 rfl ib ?_
  simp only [Act.put, List.setIfInBounds_toArray, List.set_cons_succ, List.set_cons_zero]
  go_big_quiet_step (exact cR.re)
  go_big_quiet_step (fail)
  go_big_quiet_step (fail)
  refine wpQuiet_nil ?_
  rintro _ ⟨p, rfl⟩
  have hb := below_regrown w0 p.d p.os
  generalize grow (redrawn w0 p.d) p.os = w1 at *
  replace hw := Below.after hw hb
  clear hb

  go_wp2
  go_ret
  exact ⟨rfl, hw⟩

end Go.Proofs.YtbbdfbljhjijbaaDoor

